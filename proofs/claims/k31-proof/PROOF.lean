import PyProof.Rows.All
import Wide.All
import OpenK.AllK
import Wide.FinOn
import Lean
import PyProof.EqAt
import PyProof.EqKinds
import PyProof.TupleCall
import PyProof.NeKinds
import PyProof.IsiSeqPairs
import PyProof.IsiNone
import KE.KSortTup
import KE.KRevSl
import KE.KIntText
import KE.KIsAll
import PyProof.ExcArgsOwn
import PyProof.ExcAttrAll.ValueError
import PyProof.NsDelKeeps
import PyProof.InstStoreFacts
import PyProof.Conv_int_bool
import PySem.Challenge.RW_roofpost_k31_tables_refused
set_option Elab.async false
set_option linter.all false
open Array (toList)
open Array.Perm (trans)
open Int (not_lt)
open List (length map map_drop map_take sum_cons)
open List.Pairwise (filter imp_of_mem)
open List.Perm (swap)
open Option (getD_none map_some)
open PUnit (unit)
open PySem (boot_len)
open PySem.Builtin.Frozenset (newClass slot0 updateFrom)
open PySem.Builtin.List (listExtendWith listLengthHint)
open PySem.Builtin.Range (rangeSize)
open PySem.Builtin.Slice (sliceApplied)
open PySem.Builtin.SmallTypes (stopIteration)
open PySem.Builtin.Tuple (tupleHashOf tupleItemsOf)
open PySem.Data (fields seq)
open PySem.Obj (putSet)
open PySem.SeqAt (ne_of_list_tuple)
open PySem.Value (type)
open PySem.W (codeIn methodObj)
open Sum (inl inr)
set_option maxRecDepth 100000
open PySem renaming wpAny_bind→a_,Value→b_,Shared→c_,wpAny_pure→d_,starEach→e_,Addr→i_,wpAny→r_,model→t_,Program→x_,sizeLine→A_,World→I_,Heap→RV,Expr→RW,backTo→R4,wpAny_newObj_type→R6,wpAny_mono→Sa,Stmt→Sb,bindArgs→Sc,wpAny_holding→Sd,compareOp→Se,wpAny_callSpecial?_slot→Si,wpAny_field→Sj,wpAny_call_entry→Sl,mainGlobals→Sn,wpAny_truthy_bool→So,foldedSetIterable→Sq,wpAny_setState_of→Sr,NameKind→Su,wpAny_Call_Name_kw→Sv,sizeLine_eq→Sy,SetTable→Sz,strLen_append→SC,wpAny_seqItems→SE,codeAny_builtin→SG,Around→SH,swapsWith→SK,bootBuiltins→SR,behindInMarks→SS,plainId_quiet→SU,assignEach→SZ,Builtin→S1,binaryOp→S3,wpAny_pyIter_list→S4,cLine→S8,FuncData→S',wpAny_setField→Tc,wpAny_of_eq→Ti,codeAny_mono→Tl,wpAny_FormattedValue_plain→TM,wpAny_isInstance→TR,attributeBase→TZ,wpAny_attempt→T6,wpAny_passesOwn→T9,codeAny→T_,argBest→Ub,wpAny_updateSeq→Uc,IsPair→Uj,wpAny_setField_rec→Uk,sliceBounds→Uo,rawInt→Uv,Keyword→Ux,ofAClassStatement→UF,searchCouldBeSeen→UG,wpAny_loadPart_at→UH,wpAny_formatField_int→UM,pyNext→UN,call_meets→UO,keywordEach→UX,wpAny_letGo→UY,codeAny_call_builtin→U3,wpAny_execs_nil→U5,letOwnedTupleGo→U6,wpAny_setEntries_of→U_,holding→Va,Scope→Vh,assign→Vj,hashByValue→Vz,wpAny_comprehension_free→VG,lastMarks→VM,noFill_tuple_add→VN,pickOrder→VU,wpAny_askSetting→VV,wpAny_specialOf→V9,builtinLookup_eq_fast→Wb,wpAny_setFlight_noneW→Wc,backToKw→Wi,firstArgMember→Wo,wpAny_updateSeq_pair→Wp,isSubtype_stop→Wq,wpAny_tryCatch→Ws,callerA→WD,noteFrame→WF,wpAny_standAt→WK,swapsWithSole→WL,swappedStores→WM,seq_tuple_add→WN,IsZip→WP,pyIter→WR,IsPart→WT,wpAny_pyIter_tuple→WV,wpAny_rule→WW,isInstance→WY,wpAny_assign_Name→W4,BindsTo→W5,concat_meets→W6,wpAny_typeOf→W7,slot_list_getitem→W8,wpAny_pyIter_enum→Xc,wpAny_storeSet_of→Xg,wpAny_pyIter_slot→Xh,PassesOwn→Xn,typeOf→Xo,setFlight→Xq,Model→Xr,again→Xs,seqIndex_of→Xu,getItem→XC,builtinsNs→XG,isTrue→XH,wpAny_Name→XJ,wpAny_call→XN,bindL→XO,bindC→XQ,typeIs_int→XS,standAt→X_,notedBy→Yd,collect→Ye,setNext→Yg
open PySem.Heap renaming get?_push_of_some→f_,get?_push_size→z_,lt_size→E_,get?_update_other→O_,get?_update_self→Sm,size_push→Tt
open List renaming getElem?_eq_getElem→g_,getD_eq_getElem?_getD→h_,mem_cons_of_mem→j_,mem_cons_self→m_,all_eq_true→n_,getElem?_eq_some_iff→o_,size_toArray→p_,length_map→q_,mem_singleton→s_,mem_map→u_,length_append→v_,mem_cons→B_,getElem?_map→C_,replicate→F_,map_cons→G_,mem_filter→H_,exists_cons_of_length_eq_add_one→L_,mem_append_right→M_,mem_append→P_,length_replicate→RX,mem_of_getElem?→RZ,drop_eq_getElem_cons→R7,length_cons→R8,flatMap_cons→R9,getElem?_set_ne→R_,getElem_mem→Sf,any_eq_true→Sg,mem_append_left→Sk,length_eq_zero_iff→Sw,range→Sx,mem_flatMap→SB,getElem?_append_right→SJ,nodup_cons→SL,getElem?_append_left→SM,flatMap_append→SN,append_nil→SO,mem_of_mem_take→SQ,filter_append→SV,mem_range→SY,all_cons→S0,exists_of_findSome?_eq_some→S7,getElem?_replicate→S_,getElem?_cons_succ→Te,take_append_drop→Tf,take_length→Tj,getElem?_set_self→Tk,length_set→Tn,append_assoc→Tp,zip_cons_cons→Tv,singleton_append→Tz,range_succ_eq_map→TB,length_drop→TH,getElem_of_mem→TL,findSome?_eq_none_iff→TN,getElem?_eq_none→TQ,length_filter_le→TV,getElem?_zip_eq_some→TX,mem_of_mem_drop→Ue,forIn_cons→Ui,length_take→Um,take_succ→Uq,eraseIdx_cons_succ→Ur,filter_cons_of_pos→Us,filterMap_cons→Uu,replicate_succ→Uy,drop_of_length_le→Uz,drop_eq_nil_of_le→UB,length_singleton→UJ,getElem?_drop→UR,pairwise_cons→US,not_mem_nil→UZ,getElem_toArray→U2,filter_cons→U4,length_pos_iff→U9,flatten_cons→Vb,length_range→Vc,forIn_nil→Vg,drop_succ_cons→Vm,mergeSort_perm→Vo,map_append→Vr,filter_sublist→Vs,pairwise_iff_getElem→Vt,getElem_map→Vv,foldl_append→VA,map_map→VC,mem_filterMap→VD,getElem?_take_of_lt→VE,getElem_range→VF,length_erase_of_mem→VI,find?_eq_none→VL,drop_length→VR,zipIdx_cons→VS,map_flatMap→VY,filter_cons_of_neg→VZ,getElem_cons_succ→V5,filter_eq_nil_iff→V7,mem_iff_getElem→Wn,drop_eq_nil_iff→Wr,nodup_nil→WE,take_succ_cons→WG,findSome?_cons→WJ,Pairwise→WO,append_of_mem→W0,flatMap_assoc→W2,map_mergeSort→W3,pairwise_map→Xe,nodup_append→Xj,find?_append→Xm,filter→Xy,of_mem_zip→XR,any_cons→XW,length_zip→XY,Nodup→X3,foldl_cons→X6,set_set→Yc
open Array renaming getElem?_eq_getElem→k_,getElem?_eq_some_iff→D_,length_toList→Ss,getD_eq_getD_getElem?→S2,getElem?_eq_none→Tq,getElem_mem→TC,perm_iff_toList_perm→TK,mem_iff_getElem?→TU,mem_of_getElem?→UL,getElem_of_mem→U0,size_extract→Vd,size_setIfInBounds→VJ,getElem?_extract→V2,forIn_toList→V4,getElem?_toList→V',getElem_toList→Wt,mem_toList_iff→Wv,getElem?_push→WI,getD→Yk
open Bool renaming false_ne_true→l_,and_eq_true→J_,eq_iff_iff→Ts,false_eq_true→T7,not_eq_true'→UD,not_true→UV,eq_false_iff→VB,and_eq_false_iff→Wa,false_and→We,and_false→Wm,not_eq_true→WB
open Nat renaming le_refl→w_,le_trans→y_,lt_of_lt_of_le→K_,ne_of_lt→R0,zero_le→Sh,lt_irrefl→SW,le_add_right→S5,lt_succ_of_lt→UA,lt_or_ge→UC,lt_succ_self→UP,lt_trichotomy→UT,le_of_lt→UW,ne_of_gt→Vk,le_of_lt_succ→Vy,le_of_not_lt→VQ,not_lt_zero→Wu,succ_mul→W9,le_of_eq→W_,le_succ→XE,zero_add→XZ,succ_pos→X2,mod_lt→Yf
open PyProof.Rows renaming callWith_type1→N_,slot_tuple_getitem→S9,callWith_builtin1→Tb,AllBare→Ut,seqObj→UQ,envOfC→U7,subscriptTail_builtinR→V0,isBoolOf→WA,IntsAre→W',IsTup→XF,boot_range→XM,firstMet→X8,Call_→Yj
open Option renaming map_eq_some_iff→Q_,isSome_iff_exists→TY,bind_eq_some_iff→VX
open Option.some renaming inj→RY
open Ne renaming symm→R5
open PySem.SetTable renaming insertAt→SA,runEnd→Tx,below→UK,bits→WH,leap→XB,turns→X5
open PySem.W renaming mg_none_of→SF,fnOf→Uh,hideAll→Ve,hideAll_none→Vf,Looks→Vw,of_hideAll→V6,Frag→Wd,looks_mroIn→Wz,kas_rev→Xd,looks_findIn→Xl,hideAll_get→Xv,mroIn→Xw,less→XV,findIn→X7,OpenLaw→Ya,WShape→Yb,kitOne→Yi
open Nat.succ renaming inj→S6
open PySem.F renaming plain_min_loop→Td,plainAttrs_list→Ua,called_set→Ul,slot_zip_next→U8,slot_tuple_iterator_next→Vn,args_tuple_add_2→VO,entry_tuple_add→V8,slot_enumerate_next→V_,slot_tuple_add→Wg,args_zip_next_1→Xb,slot_tuple_hash→Xf,plain_list_iadd→Xi,slot_gs_get→Xx
open PyProof.Rows.F renaming plain_set_update_loop→Tg,entry_set_update_loop→VT
open Int renaming eq_ofNat_of_zero_le→Th,toNat_natCast→T4,emod_lt_of_pos→UE,emod_nonneg→Vx,lt_of_lt_of_le→W1,le_of_lt→Xa,le_trans→Xk
open PySem.Around renaming under_plainId→Tu
open PySem.Obj renaming isFreed_of_fields→Tw,data_mapFields→TJ,cls_mapFields→Vu,mapFields→VW,mapSeq→V1
open Classical renaming byContradiction→Ud
open PySem.Calls renaming Constant_str→Uf,spliced_cons→Ug,spliced_nil→Uw,Name_function_global→Vi,evalArgs_plain→Wj
open List.Sublist renaming refl→UI
open PySem.SetTable.layClean renaming free→UU
open PySem.Str renaming ofString→Vl
open PySem.SetTable.probe renaming go→Vp
open PySem.PassesOwn renaming never→Vq
open PySem.AutoSeq1 renaming wpAny_loadPart'→VH
open Prod renaming ext→VP
open PySem.Builtin.Slice renaming slicePlaces→Wh,sliceAdjust→Xt
open PySem.Builtin.List renaming listTooLong→Wk
open ForInStep renaming done→Ww,yield→XU
open List.Perm renaming refl→Wx
open PySem.Data renaming cell→WC
open Prod.mk renaming injEq→WQ
open PySem.Builtin.Tuple renaming tupleExact→WU
open PySem.Walks renaming list→WX
open PySem.Code renaming quiet_builtin→WZ
open PySem.SeqAt renaming RcNeAt→Xp,EqAt→XA
open PySem.Builtin.SmallTypes renaming nextOf→XX
open Function renaming comp_def→X9
open False renaming elim→X'
open PySem.Value renaming builtin→Yh
theorem wSaid:PySem.Challenge.rw_roofpost_k31_tables_refused.wellSaid=true:=by decide +kernel
local macro_rules|`(tactic|omega)=>`(tactic|first|with_reducible decide|with_reducible assumption|with_reducible (refine Nat.le_trans (m:=?x) ?p ?q;(case p=>assumption);(case q=>decide))|with_reducible (refine Int.le_trans (b:=?x) ?p ?q;(case p=>assumption);(case q=>decide))|with_reducible (refine Int.lt_of_lt_of_le (b:=?x) ?p ?q;(case p=>assumption);(case q=>decide))|with_reducible (refine Nat.lt_of_le_of_lt (m:=?x) ?p ?q;(case p=>assumption);(case q=>decide))|lia|omega (config:={}))
noncomputable section
variable{us vs ac its' gE bB:List PySem.Value}{a b f C l1 l2 fa S:PySem.Addr}{h base h' aJ h₀:PySem.Heap}{u cd pm ct oc vl vu fl:PySem.Value}{g':Array PySem.GenState}{t' i j k n tk m ep ar kk:Nat}{d':PySem.Drawn}{ch fp:List PySem.Addr}{e tg ie:PySem.Expr}{gj aa pn:List (PySem.Addr×PySem.Obj)}{N ps cF:List PySem.Str}{A:PySem.Around}{s' s2 aA:PySem.Shared}{pos aE p1 aU aB p2 py cV tp cW p' np p3 p4:PySem.Pos}{y qual q z:PySem.Str}{es:Array (Int×PySem.Value)}{hi:Option Int}{p rs L:List (Int×Int)}{op cq:PySem.CmpOp}{fd:PySem.FuncData}{mg:PySem.Str->Option PySem.Value}{scope:PySem.Scope}{params:PySem.Arguments}{an od:Option PySem.Addr}{dL:Array (Option PySem.Value)}{sp neg:Bool}{ws T as:List (List (Int×Int))}{af cells ag:Array PySem.Value}{l ns:List Int}{args:List PySem.W.WData}{iX bj bL ao:List PySem.Expr}{sa sb:List PySem.Stmt}{env:PySem.Env}{bt:Nat->Nat->Bool}{eqf:Nat->Bool}{ni:String}{low most:Int}{pr:Int×Int}
namespace L2
open PySem PySem.Spec PyProof.Rows
abbrev Key:=Sum Int Str
noncomputable def keyIs:Key->b_->Bool
 | .inl k,v=>b_.isInt k v
 | .inr x,v=>b_.isStrOf x v
noncomputable def keyH(w:I_):Key->Int
 | .inl k=>hashInt k
 | .inr x=>hashStr w x
theorem u7:∀{k:Key}{v:b_},keyIs k v=true->(∃i t,k=inl i/\v=b_.int i t)\/(∃x t,k=inr x/\v=b_.str x t)
 | .inl i,v,h=>by
  obtain⟨t,e⟩:=b_.isInt_shape (k:=i) (v:=v) h;exact .inl ⟨i,t,rfl,e⟩
 | .inr x,v,h=>by
  obtain⟨t,e⟩:=b_.isStrOf_shape (x:=x) (v:=v) h;exact .inr ⟨x,t,rfl,e⟩
theorem MP(a b:Int):decide ((inl a:Key)=inl b)=(a == b):=by
 by_cases e:a=b
 ·subst e;simp
 ·have h:¬(inl a:Key)=inl b:=λq=>e (inl.inj q)
  rw[decide_eq_false h];exact(beq_eq_false_iff_ne.mpr e).symm
theorem PY(a b:Str):decide ((inr a:Key)=inr b)=decide (a=b):=by
 by_cases e:a=b
 ·subst e;simp
 ·have h:¬(inr a:Key)=inr b:=λq=>e (inr.inj q)
  rw[decide_eq_false h,decide_eq_false e]
theorem O1(a:Int)(b:Str):decide ((inl a:Key)=inr b)=false:=decide_eq_false (λq=>nomatch q)
theorem O9(a:Str)(b:Int):decide ((inr a:Key)=inl b)=false:=decide_eq_false (λq=>nomatch q)
noncomputable def mixKind(prog:x_)(w:I_):PySem.KeyKind prog w Key where
 is:=keyIs
 hash:=keyH w
 inj:=λv a b ha hb=>by
  rcases u7 ha with⟨i,t,rfl,rfl⟩ | ⟨x,t,rfl,rfl⟩
  ·rcases u7 hb with⟨j,u,rfl,e⟩ | ⟨y,u,rfl,e⟩
   ·injection e with e1 _;rw[e1]
   ·exact nomatch e
  ·rcases u7 hb with⟨j,u,rfl,e⟩ | ⟨y,u,rfl,e⟩
   ·exact nomatch e
   ·injection e with e1 _;rw[e1]
 byValue:=λk v h=>by
  rcases u7 h with⟨i,t,rfl,rfl⟩ | ⟨x,t,rfl,rfl⟩<;>rfl
 pyHash:=λhv h=>by
  rcases u7 hv with⟨i,t,rfl,rfl⟩ | ⟨x,t,rfl,rfl⟩
  ·exact wpAny_pyHash_int h
  ·exact wpAny_pyHash_str h
 eqBool:=λhu hv h=>by
  rcases u7 hu with⟨i,t,rfl,rfl⟩ | ⟨x,t,rfl,rfl⟩
  ·rcases u7 hv with⟨j,u,rfl,rfl⟩ | ⟨y,u,rfl,rfl⟩
   ·rw[MP] at h;exact wpAny_eqBool_int h
   ·rw[O1] at h;exact SeqAt.EqAt.int_str i t y u _ _ _ _ h
  ·rcases u7 hv with⟨j,u,rfl,rfl⟩ | ⟨y,u,rfl,rfl⟩
   ·rw[O9] at h;exact SeqAt.EqAt.str_int x t j u _ _ _ _ h
   ·rw[PY] at h;exact wpAny_eqBool_str h
 «strs»:=λk x t v h=>by
  rcases u7 h with⟨i,u,rfl,e⟩ | ⟨y,u,rfl,e⟩
  ·exact nomatch e
  ·injection e with e1 _
   subst e1;cases v<;>rfl
inductive V where
 | non | bl (b:Bool) | int (i:Int) | str (x:Str) | byt (b:Array UInt8) | flt (b:UInt64) | ref (a:i_) | ty (n:String)
 deriving DecidableEq
def RelV:V->b_->Prop
 | .non,u=>u=b_.none
 | .bl b,u=>u=b_.bool b
 | .int i,u=>∃t,u=b_.int i t
 | .str x,u=>∃t,u=b_.str x t
 | .byt b,u=>∃t,u=b_.bytes b t
 | .flt b,u=>∃t,u=b_.float b t
 | .ref a,u=>u=b_.ref a
 | .ty n,u=>u=type n
abbrev Vals:List V->List b_->Prop:=Paired RelV
theorem Vals.length{xs:List V}(r:Vals xs us):xs.length=us.length:=Paired.length r
theorem Vals.get:∀{xs:List V}{us:List b_}{i:Nat}{x:V},Vals xs us->xs[i]?=some x->∃u,us[i]?=some u/\RelV x u
 | _,_,_,_,.nil,e=>by simp at e
 | _,_,0,_,.cons r _,e=>by simp at e;subst e;exact⟨_,rfl,r⟩
 | _,_,i+1,x,.cons _ t,e=>by
  obtain⟨u,h1,h2⟩:=Vals.get (i:=i) (x:=x) t (by simpa using e);exact⟨u,by simpa using h1,h2⟩
theorem Vals.set{x:V}{u:b_}(r:RelV x u):∀{xs:List V}{us:List b_} (i:Nat),Vals xs us->Vals (xs.set i x) (us.set i u)
 | _,_,_,.nil=>.nil
 | _,_,0,.cons _ t=>.cons r t
 | _,_,i+1,.cons q t=>.cons q (Vals.set r i t)
theorem Vals.append:∀{xs ys:List V}{us ws:List b_},Vals xs us->Vals ys ws->Vals (xs++ys) (us++ws)
 | _,_,_,_,.nil,s=>s
 | _,_,_,_,.cons r t,s=>.cons r (Vals.append t s)
theorem Vals.take:∀{xs:List V}{us:List b_} (n:Nat),Vals xs us->Vals (xs.take n) (us.take n)
 | _,_,0,_=>.nil
 | _,_,_+1,.nil=>.nil
 | _,_,n+1,.cons r t=>.cons r (Vals.take n t)
theorem Vals.drop:∀{xs:List V}{us:List b_} (n:Nat),Vals xs us->Vals (xs.drop n) (us.drop n)
 | _,_,0,r=>r
 | _,_,_+1,.nil=>.nil
 | _,_,n+1,.cons _ t=>Vals.drop n t
def RelO:Option V->Option b_->Prop
 | some v,some u=>RelV v u
 | none,none=>True
 | _,_=>False
def KV{κ:Type}:List (κ×V)->List (κ×b_)->Prop:=Paired λ(p:κ×V) (q:κ×b_)=>p.1=q.1/\RelV p.2 q.2
noncomputable def kV:Key->V
 | .inl i=>.int i
 | .inr x=>.str x
inductive HO where
 | lst (xs:List V)
 | tup (xs:List V)
 | dK (aY:List (Key×V)) | dT (aY:List (List Key×V))
 | set (S:Int->Bool) (n:Nat)
 | ins (C dx:i_) (fs:List (Str×V))
 | own (x:i_)
 | xd (fs:List (Str×V))
 | met (f x:i_)
 | rng (lo hi:Int)
 | frz (o:Obj) (u:HO)
 | tbl (ps:Array b_)
 | ext (φ:RV->Prop)
abbrev Hp:=i_->Option HO
noncomputable def upd(H:Hp)(a:i_)(o:HO):Hp:=λb=>if b=a then some o else H b
theorem tm{H:Hp}{o:HO}:upd H a o a=some o:=by unfold upd;rw[if_pos rfl]
theorem sN{H:Hp}{o:HO}(h:b≠a):upd H a o b=H b:=by unfold upd;rw[if_neg h]
theorem uQ{H:Hp}{o:HO}(h:H a=some o)(h':H b=none):a≠b:=by
 intro e;subst e;rw[h] at h';cases h'
section
variable (P:x_)(w:I_)
def ObjOk(H:Hp)(h:RV)(a:i_):HO->Prop
 | .lst xs=>xs.length<=A_/\∃(ac:List b_) (n:Nat),Vals xs ac/\h.get? a=some { cls:=.type "list", data:=.seq ac.toArray n }
 | .tup xs=>xs.length<=A_/\∃ac:List b_,Vals xs ac/\XF h a ac.toArray
 | .dK aY=>aY.length<=A_/\(a == sysModules)=false/\∃vs,KV aY vs/\h.DictOf (mixKind P w) a vs
 | .dT aY=>aY.length<=A_/\(a == sysModules)=false/\∃xs:List (List Key×i_×b_),
   Paired (λ(p:List Key×V) (q:List Key×i_×b_)=>p.1=q.1/\H q.2.1=some (.tup (p.1.map kV))/\RelV p.2 q.2.2) aY xs ∧
   ∃o es ep,h.get? a=some o/\o.ExactDict/\o.data=.dict es ep/\es.toList=xs.map (entryOfKey (tupleKind (mixKind P w)))/\(xs.map (·.1)).Nodup
 | .set S n=>h.SetOf (intKind P w) a S n
 | .ins C dx fs=>H dx=some (.own a)/\fs.length<=1000/\dx≠a/\h.get? a=some (PySem.W.instObj C dx) ∧
   ∃mA,h.Ns1 dx mA/\(∀f,RelO (fs.lookup f) (mA f))/\PySem.Within mA (fs.map (·.1))
 | .own _=>∃o,h.get? a=some o
 | .xd fs=>∃mA,h.Ns1 a mA/\∀f,RelO (fs.lookup f) (mA f)
 | .rng lo hi=>∃t u v,h.get? a=some { cls:=.type "range", data:=.fields #[.int lo t,.int hi u,.int 1 v] }
 | .frz o u=>h.get? a=some o/\ObjOk H h a u
 | .tbl ps=>h.get? a=some { cls:=.none,data:=.fields ps }
 | .met f x=>h.get? a=some (methodObj (.ref f) (.ref x))
 | .ext φ=>φ h/\(∃o,h.get? a=some o)/\∀h1 h2:RV,φ h1->(∀o,h1.get? a=some o->h2.get? a=some o)->φ h2
def HOk(H:Hp)(h:RV):Prop:=∀a o,H a=some o->ObjOk P w H h a o
end
section
variable{P:x_}{w:I_}{H H':Hp}{o:HO}
theorem ObjOk.lt(x:ObjOk P w H h a o):a < h.objs.size:=by
 cases o with
 | lst xs=>obtain⟨_,_,_,_,e⟩:=x;exact E_ e
 | tup xs=>obtain⟨_,_,_,p⟩:=x;exact p.lt
 | dK aY=>obtain⟨_,_,_,_,o,_,_,e,_⟩:=x;exact E_ e
 | dT aY=>obtain⟨_,_,_,_,o,_,_,e,_⟩:=x;exact E_ e
 | set S n=>obtain⟨o,_,_,_,e,_⟩:=x;exact E_ e
 | ins C dx fs=>obtain⟨_,_,_,e,_⟩:=x;exact E_ e
 | own y=>obtain⟨_,e⟩:=x;exact E_ e
 | xd fs=>obtain⟨_,⟨_,_,_,e,_⟩,_⟩:=x;exact E_ e
 | rng lo hi=>obtain⟨_,_,_,e⟩:=x;exact E_ e
 | frz ob u=>obtain⟨e,_⟩:=x;exact E_ e
 | tbl ps=>exact E_ (show h.get? a=some _ from x)
 | met f y=>exact E_ (show h.get? a=some _ from x)
 | ext φ=>obtain⟨_,⟨_,e⟩,_⟩:=x;exact E_ e
theorem Paired.mapP{α β:Type}{F G:α->β->Prop}:∀{l₁:List α}{jV:List β},Paired F l₁ jV->(∀a b,F a b->G a b)->Paired G l₁ jV
 | _,_,.nil,_=>.nil
 | _,_,.cons r t,f=>.cons (f _ _ r) (Paired.mapP t f)
theorem ObjOk.stay(x:ObjOk P w H h a o)(k:∀b u,(b=a\/H b=some (.own a))->h.get? b=some u->h'.get? b=some u)(ho:∀b,H b=some (.own a)->H' b=some (.own a))(ht:∀b xs,H b=some (.tup xs)->H' b=some (.tup xs)):ObjOk P w H' h' a o:=by
 induction o with
 | lst xs=>obtain⟨z,ac,n,r,e⟩:=x;exact⟨z,ac,n,r,k _ _ (.inl rfl) e⟩
 | tup xs=>obtain⟨z,ac,r,ob,e,c⟩:=x;exact⟨z,ac,r,ob,k _ _ (.inl rfl) e,c⟩
 | dK aY=>obtain⟨z,y,vs,r,ob,es,ep,e,c⟩:=x;exact⟨z,y,vs,r,ob,es,ep,k _ _ (.inl rfl) e,c⟩
 | dT aY =>
  obtain⟨z,y,xs,r,ob,es,ep,e,c⟩:=x;exact⟨z,y,xs,Paired.mapP r λp q z=>⟨z.1,ht _ _ z.2.1,z.2.2⟩,ob,es,ep,k _ _ (.inl rfl) e,c⟩
 | set S n=>obtain⟨ob,es,ep,t,e,c⟩:=x;exact⟨ob,es,ep,t,k _ _ (.inl rfl) e,c⟩
 | ins C dx fs =>
  obtain⟨d,z,ne,e,mA,⟨od,es,ep,e2,c⟩,r⟩:=x;exact⟨ho _ d,z,ne,k _ _ (.inl rfl) e,mA,⟨od,es,ep,k _ _ (.inr d) e2,c⟩,r⟩
 | own y=>obtain⟨ob,e⟩:=x;exact⟨ob,k _ _ (.inl rfl) e⟩
 | xd fs=>obtain⟨mA,⟨od,es,ep,e,c⟩,r⟩:=x;exact⟨mA,⟨od,es,ep,k _ _ (.inl rfl) e,c⟩,r⟩
 | rng lo hi=>obtain⟨t,u,v,e⟩:=x;exact⟨t,u,v,k _ _ (.inl rfl) e⟩
 | frz ob u ih=>obtain⟨e,q⟩:=x;exact⟨k _ _ (.inl rfl) e,ih q⟩
 | tbl ps =>
  have e:h.get? a=some { cls:=.none,data:=.fields ps }:=x;show h'.get? a=some { cls:=.none,data:=.fields ps };exact k a _ (.inl rfl) e
 | met f y =>
  have e:h.get? a=some (methodObj (.ref f) (.ref y)):=x;show h'.get? a=some (methodObj (.ref f) (.ref y));exact k a _ (.inl rfl) e
 | ext φ=>obtain⟨p,⟨o,e⟩,st⟩:=x;exact⟨st _ _ p λo q=>k _ _ (.inl rfl) q,⟨o,k _ _ (.inl rfl) e⟩,st⟩
theorem HOk.lt(x:HOk P w H h)(e:H a=some o):a < h.objs.size:=(x a o e).lt
theorem HOk.fresh(x:HOk P w H h)(e:h.objs.size<=a):H a=none:=by
 cases q:H a with
 | none=>rfl
 | some u=>exact absurd (K_ (x.lt q) e) (SW _)
theorem HOk.kept(x:HOk P w H h)(k:∀b u,h.get? b=some u->h'.get? b=some u):HOk P w H h':=λa o e =>
 (x a o e).stay (λb u _ q=>k b u q) (λ_ q=>q) λ_ _ q=>q
theorem HOk.laid(x:HOk P w H h)(k:∀b u,h.get? b=some u->h'.get? b=some u)(hp:h.objs.size<=a)(new:ObjOk P w (upd H a o) h' a o):HOk P w (upd H a o) h':=λb u e=>by
 have hn:=x.fresh hp;by_cases hb:b=a
 ·subst hb;rw[tm] at e;cases e;exact new
 ·rw[sN hb] at e;exact(x b u e).stay (λc v _ q=>k c v q) (λc q=>by rw[sN (uQ q hn)];exact q) λc xs q=>by rw[sN (uQ q hn)];exact q
end
def Rd(H:Hp)(a:i_)(u:HO):Prop:=H a=some u\/∃o,H a=some (.frz o u)
theorem Rd.ok{P:x_}{w:I_}{H:Hp}{u:HO}(r:Rd H a u)(x:HOk P w H h):ObjOk P w H h a u:=by
 rcases r with r | ⟨o,r⟩
 ·exact x a u r
 ·obtain⟨_,q⟩:=x a _ r;exact q
def Mut:Option HO->Prop
 | some (.lst _)=>True
 | some (.dK _)=>True
 | some (.dT _)=>True
 | some (.set _ _)=>True
 | some (.ins _ _ _)=>True
 | some (.ext _)=>True
 | _=>False
section
variable{P:x_}{w:I_}{H:Hp}{x e:i_}{o':HO}
theorem HOk.write(ok:HOk P w H h)(mu:Mut (H x))(he:e=x\/H e=some (.own x))(k:∀b u,b≠e->h.get? b=some u->h'.get? b=some u)(fN:∃u,h'.get? e=some u)(new:ObjOk P w (upd H x o') h' x o'):HOk P w (upd H x o') h':=λb u q=>by
 have jW:∀c y,H c=some (.own y)->c≠x:=λc y r z=>by subst z;rw[r] at mu;exact mu
 have me:∀c xs,H c=some (.tup xs)->c≠x:=λc xs r z=>by subst z;rw[r] at mu;exact mu
 by_cases hb:b=x
 ·subst hb;rw[tm] at q;cases q;exact new
 ·rw[sN hb] at q;by_cases hbe:b=e
  ·have q':H b=some (.own x):=by
    rcases he with z | z
    ·exact absurd (hbe.trans z) hb
    ·rw[hbe];exact z
   rw[q] at q';cases q';obtain⟨v,hv⟩:=fN;exact⟨v,by rw[hbe];exact hv⟩
  ·refine(ok b u q).stay (λc v hc r=>k c v ?_ r) (λc r=>by rw[sN (jW c b r)];exact r) λc xs r=>by rw[sN (me c xs r)];exact r
   rcases hc with rfl | hc
   ·exact hbe
   ·rintro rfl
    rcases he with z | z
    ·exact jW c b hc z
    ·rw[hc] at z;cases z;exact hb rfl
end
structure Un(fs ex:List i_)(H H':Hp)(h h':RV):Prop where
 keep:∀b o,h.get? b=some o->H b=none->b∉fs->b∉ex->h'.get? b=some o
 slot:∀b o,h.get? b=some o->H b=none->b∈fs->b∉ex->∃sl,h'.get? b=some { o with slots:=sl }
 free:∀b o,h.get? b=some o->H b=none->b∉ex->H' b=none
 there:∀b o,h.get? b=some o->b∉ex->∃o',h'.get? b=some o'
 tups:∀b xs,H b=some (.tup xs)->H' b=some (.tup xs)
 frzs:∀b o u,H b=some (.frz o u)->H' b=some (.frz o u)
 tbls:∀b ps,H b=some (.tbl ps)->∃more,H' b=some (.tbl (ps++more))
section
variable{fs oP ex rJ:List i_}{H H1 H2:Hp}{h1 h2:RV}{x e:i_}{o:HO}
theorem Un.any(u:Un fs ex H H1 h h1){ob:Obj}(q:h.get? b=some ob)(n:H b=none)(hx:b∉ex):∃sl,h1.get? b=some { ob with slots:=sl }:=by
 by_cases hb:b∈fs
 ·exact u.slot b ob q n hb hx
 ·exact⟨ob.slots,u.keep b ob q n hb hx⟩
theorem Un.kept(k:∀b u,h.get? b=some u->h'.get? b=some u):Un fs ex H H h h':=
 ⟨λb ob q _ _ _=>k b ob q,λb ob q _ _ _=>⟨ob.slots,k b ob q⟩,λ_ _ _ n _=>n,λb ob q _=>⟨ob,k b ob q⟩,λ_ _ q=>q,λ_ _ _ q=>q,λ_ ps q=>⟨#[],by rw[q];simp⟩⟩
theorem Un.refl:Un fs ex H H h h:=Un.kept λ_ _ q=>q
theorem Un.laid(k:∀b u,h.get? b=some u->h'.get? b=some u)(hp:h.objs.size<=a)(hn:H a=none):Un fs ex H (upd H a o) h h' where
 keep:=λb u q _ _ _=>k b u q
 slot:=λb u q _ _ _=>⟨u.slots,k b u q⟩
 free:=λb u q n _=>by rw[sN (R0 (K_ (E_ q) hp))];exact n
 there:=λb u q _=>⟨u,k b u q⟩
 tups:=λb xs q=>by rw[sN (uQ q hn)];exact q
 frzs:=λb u xs q=>by rw[sN (uQ q hn)];exact q
 tbls:=λb ps q=>⟨#[],by rw[sN (uQ q hn),q];simp⟩
theorem Un.write(mu:Mut (H x))(he:e=x\/H e=some (.own x))(k:∀b u,b≠e->h.get? b=some u->h'.get? b=some u)(fN:∃u,h'.get? e=some u):Un fs ex H (upd H x o) h h':=by
 have hx:∀b,H b=none->b≠x:=λb n z=>by subst z;rw[n] at mu;exact mu
 have hb:∀b,H b=none->b≠e:=λb n z=>by
  subst z
  rcases he with r | r
  ·exact hx b n r
  ·rw[n] at r;cases r
 have hm:∀b u,H b=some u->¬Mut (some u)->b≠x:=λb u q nm z=>by subst z;rw[q] at mu;exact nm mu
 refine⟨λb u q n _ _=>k b u (hb b n) q,λb u q n _ _=>⟨u.slots,k b u (hb b n) q⟩,λb u q n _=>by rw[sN (hx b n)];exact n,λb u q _=>?_,
  λb xs q=>by rw[sN (hm b _ q λz=>z)];exact q,λb u xs q=>by rw[sN (hm b _ q λz=>z)];exact q,λb ps q=>⟨#[],by rw[sN (hm b _ q λz=>z),q];simp⟩⟩
 by_cases hbe:b=e
 ·subst hbe;exact fN
 ·exact⟨u,k b u hbe q⟩
end
noncomputable def trk(h:RV)(H:Hp):List i_:=(Sx h.objs.size).filter λa=>(H a).isSome
noncomputable def hidT(h:RV)(H:Hp):RV:=PySem.W.hideAll h (trk h H)
theorem HB(h:RV)(H:Hp):(hidT h H).objs.size=h.objs.size:=PySem.W.hideAll_size _ _
theorem JL{H:Hp}{o:Obj}(e:h.get? b=some o)(n:H b=none):(hidT h H).get? b=some o:=
 PySem.W.hideAll_get _ e λhm=>by
  have q:(H b).isSome=true:=(H_.mp hm).2;rw[n] at q;simp at q
theorem PP{H:Hp}{o:Obj}(e:(hidT h H).get? b=some o):h.get? b=some o/\H b=none:=by
 have e':h.get? b=some o:=PySem.W.of_hideAll (trk h H) e;refine⟨e',?_⟩;cases q:H b with
 | none=>rfl
 | some x =>
  have hm:b∈trk h H:=H_.mpr ⟨SY.mpr (E_ e'),by simp[q]⟩;have z:(hidT h H).get? b=none:=PySem.W.hideAll_none (trk h H) hm;rw[z] at e;cases e
structure Mod(K:PySem.W.Frag)(mg:Str->Option b_)(base:RV):Prop where
 kin:K.In base
 glob:base.Ns Sn mg
 blt:∃mb,base.Ns XG mb/\∀x:Str,x ≠ "__name__"->mb x=SR x
 nolimit:base.NoLimit
structure Cx where
 prog:x_
 w:I_
 K:PySem.W.Frag
 mg:Str->Option b_
 base:RV
 A:SH
 N:List Str
 s₀:c_
 H₀:Hp
 env:Env
 outer:List Env
 stack:List Env
 ex:List i_
 fn:Str->Bool
 calm:Bool
 pn:List (i_×Obj)
 xe:b_->c_->Prop
noncomputable def frs(l:List Env):List i_:=l.filterMap (·.frame)
noncomputable abbrev Cx.fs(X:Cx):List i_:=frs X.outer
def Vis(sc:Vh)(x:Str):Prop:=sc.names.lookup x=some .local\/sc.names.lookup x=some .cell\/sc.names.lookup x=some .free
def Loc(sc:Vh)(x:Str):Prop:=sc.names.lookup x=some .local\/sc.names.lookup x=some .cell
noncomputable def visB(s:Vh)(x:Str):Bool:=match s.names.lookup x with|some .local=>true|some .cell=>true|some .free=>true|_=>false
noncomputable def locB(s:Vh)(x:Str):Bool:=match s.names.lookup x with|some .local=>true|some .cell=>true|_=>false
noncomputable def fnB(X:Cx)(x:Str):Bool:=X.fn x||match X.env.scope.names.lookup x with|some .local=>true|_=>false
theorem visI{s:Vh}{x:Str}(h:visB s x=true):Vis s x:=by
 unfold visB at h;unfold Vis;split at h<;>simp_all
theorem locI{s:Vh}{x:Str}(h:locB s x=true):Loc s x:=by
 unfold locB at h;unfold Loc;split at h<;>simp_all
theorem fnI{X:Cx}{x:Str}(h:fnB X x=true):X.fn x=true\/X.env.scope.names.lookup x=some .local:=by
 unfold fnB at h;cases e:X.fn x with
 | true=>exact .inl rfl
 | false=>rw[e,Bool.false_or] at h;split at h<;>simp_all
def Look(env:Env)(h:RV)(m:Str->Option b_)(x:Str)(u:b_):Prop:=
 (env.kindOf x=some .local/\m x=some u)\/((env.kindOf x=some .cell\/env.kindOf x=some .free)/\∃c,env.cells.lookup x=some c/\h.IsCell c (some u))
structure Cx.Ok(X:Cx):Prop where
 mod:Mod X.K X.mg X.base
 kind:X.env.scope.kind=.function
 glob:X.env.globals=Sn
 blt:X.env.builtins=XG
 above:X.s₀.heap.objs.size<=X.env.locals
 inj:∀x y c,X.env.cells.lookup x=some c->X.env.cells.lookup y=some c->x=y
 has:∀x,(X.env.kindOf x=some .cell\/X.env.kindOf x=some .free)->∃c,X.env.cells.lookup x=some c
 cab:∀x c,X.fn x=true->X.env.cells.lookup x=some c->X.s₀.heap.objs.size<=c
 hd:X.calm=true->X.A.handled=none
 frames:X.A.frames=some X.stack
 stk:X.stack=X.outer\/(X.stack=X.env::X.outer/\X.env.frame=some X.env.locals)
 exf:∀b∈X.ex,b≠X.env.locals/\∀x c,X.env.cells.lookup x=some c->c≠b
 bs:∀b o,X.base.get? b=some o->X.s₀.heap.get? b=some o/\X.H₀ b=none
 bsz:X.base.objs.size<=X.s₀.heap.objs.size
 noex:∀b o,X.base.get? b=some o->b∉X.ex
 exfs:∀b∈X.ex,b∉X.fs
 funs:X.s₀.heap.FunFrames X.base X.outer
 frf:∀b∈X.fs,X.H₀ b=none
structure Inv(X:Cx)(aa:List (i_×Obj))(Z:List (Option V))(H:Hp)(s:c_):Prop where
 ok:X.Ok
 os:s.os=X.s₀.os
 bare:Ut s.gens
 base:Un X.fs X.ex X.H₀ H X.s₀.heap s.heap
 loc:∃m,s.heap.Ns X.env.locals m/\∀(i:Nat) (x:Str) (v:V),X.N[i]?=some x->Z[i]?=some (some v)->Vis X.env.scope x->∃u,RelV v u/\Look X.env s.heap m x u
 cell:∀x c,X.env.cells.lookup x=some c->∃v,s.heap.IsCell c v
 free:H X.env.locals=none
 freeC:∀x c,X.env.cells.lookup x=some c->H c=none
 pin:∀p∈X.pn++aa,s.heap.get? p.1=some p.2/\H p.1=none/\p.1≠X.env.locals/\p.1∉X.fs/\∀v,p.2.data≠.cell v
 hok:HOk X.prog X.w H s.heap
 len:Z.length=X.N.length
section
variable{X:Cx}{Z:List (Option V)}{H H':Hp}{s:c_}
theorem Cx.Ok.nofr(ok:X.Ok){o:Obj}(e:X.base.get? b=some o):b∉X.fs:=λhb=>by
 have:=(ok.funs.mem hb).1;rw[e] at this;cases this
theorem Inv.bs(I:Inv X aa Z H s):∀b o,X.base.get? b=some o->s.heap.get? b=some o/\H b=none:=λb o e =>
 ⟨I.base.keep b o (I.ok.bs b o e).1 (I.ok.bs b o e).2 (I.ok.nofr e) (I.ok.noex b o e),I.base.free b o (I.ok.bs b o e).1 (I.ok.bs b o e).2 (I.ok.noex b o e)⟩
theorem Inv.bk(I:Inv X aa Z H s):∀b o,X.base.get? b=some o->s.heap.get? b=some o:=λb o e=>(I.bs b o e).1
theorem Inv.mod(I:Inv X aa Z H s):Mod X.K X.mg X.base:=I.ok.mod
theorem Inv.kIn(I:Inv X aa Z H s):X.K.In s.heap:=I.ok.mod.kin.keeps I.bk
theorem Inv.lt(I:Inv X aa Z H s):X.env.locals < s.heap.objs.size:=let ⟨_,hn,_⟩:=I.loc;hn.lt
theorem Inv.sz(I:Inv X aa Z H s):X.s₀.heap.objs.size<=s.heap.objs.size:=y_ I.ok.above (UW I.lt)
theorem Inv.nofs(I:Inv X aa Z H s)(h:s.heap.objs.size<=a):a∉X.fs:=λhb=>by
 obtain⟨_,o,ho,_⟩:=I.ok.funs.mem hb;exact absurd (K_ (E_ ho) (y_ I.sz h)) (SW _)
theorem Inv.cne(I:Inv X aa Z H s):∀x c,X.env.cells.lookup x=some c->c≠X.env.locals:=λx c e z=>by
 obtain⟨v,o,ho,hd⟩:=I.cell x c e;obtain⟨m,⟨o',es,ep,cn,cx,_⟩,_⟩:=I.loc;rw[z,cn] at ho;cases ho;rw[cx] at hd;cases hd
theorem Inv.funs(I:Inv X aa Z H s):s.heap.FunFrames X.base X.outer:=by
 have all:∀(l:List Env),(∀b∈frs l,b∈X.fs)->X.s₀.heap.FunFrames X.base l->s.heap.FunFrames X.base l:=by
  intro l
  induction l with
  | nil=>intro _ _;trivial
  | cons env r ih =>
   intro hs hl;obtain⟨hk,⟨L,o,hf,hn,ho,hd⟩,hr⟩:=hl;have hL:L∈X.fs:=hs L (by unfold frs;rw[Uu,hf];exact m_);obtain⟨sl,e⟩:=I.base.slot L o ho (I.ok.frf L hL) hL λz=>I.ok.exfs L z hL
   exact⟨hk,⟨L,_,hf,hn,e,hd⟩,ih (λb hb=>hs b (by unfold frs;rw[Uu,hf];exact j_ _ hb)) hr⟩
 exact all X.outer (λ_ hb=>hb) I.ok.funs
theorem Inv.stack(I:Inv X aa Z H s):s.heap.FunFrames X.base X.stack:=by
 rcases I.ok.stk with e | ⟨e,hf⟩
 ·rw[e];exact I.funs
 ·rw[e];obtain⟨m,hn,_⟩:=I.loc;refine .cons (by rw[I.ok.kind];decide) hf hn ?_ I.funs;exact RV.get?_none_of_le (y_ I.ok.bsz I.ok.above)
theorem Inv.stkSub(I:Inv X aa Z H s):∀b∈frs X.stack,b∈X.env.locals::X.fs:=λb hb=>by
 rcases I.ok.stk with e | ⟨e,hf⟩
 ·rw[e] at hb;exact j_ _ hb
 ·rw[e] at hb;unfold frs at hb;rw[Uu,hf] at hb;exact hb
theorem Inv.stkFree(I:Inv X aa Z H s):∀b∈frs X.stack,H b=none:=λb hb=>by
 rcases B_.mp (I.stkSub b hb) with e | hb
 ·rw[e];exact I.free
 ·obtain⟨_,o,ho,_⟩:=I.ok.funs.mem hb;exact I.base.free b o ho (I.ok.frf b hb) λz=>I.ok.exfs b z hb
theorem Inv.stepN(I:Inv X aa Z H s)(bh:∀b∈ch,(b∈X.ex\/X.s₀.heap.get? b=none)/\b≠X.env.locals/\(∀x c,X.env.cells.lookup x=some c->c≠b)/\∀p∈X.pn++aa,p.1≠b)(keep:∀b o,b≠X.env.locals->b∉X.fs->b∉ch->s.heap.get? b=some o->H b=none->h'.get? b=some o)(slot:∀b o,b≠X.env.locals->b∈X.fs->b∉ch->s.heap.get? b=some o->H b=none->∃sl,h'.get? b=some { o with slots:=sl })(free:∀b o,b∉ch->s.heap.get? b=some o->H b=none->H' b=none)(there:∀b o,b∉ch->s.heap.get? b=some o->∃o',h'.get? b=some o')(tups:∀b xs,H b=some (.tup xs)->H' b=some (.tup xs))(frzs:∀b o u,H b=some (.frz o u)->H' b=some (.frz o u))(tbls:∀b ps,H b=some (.tbl ps)->∃more,H' b=some (.tbl (ps++more)))(ns:∀m,s.heap.Ns X.env.locals m->h'.Ns X.env.locals m)(hok:HOk X.prog X.w H' h')(hg:Ut g'):
  Inv X aa Z H' { s with heap:=h',gens:=g',drawn:=d',toks:=t' }:=by
 have fO:∀b o,X.s₀.heap.get? b=some o->b≠X.env.locals:=λb o e=>R0 (K_ (E_ e) I.ok.above)
 have fP:∀b o,X.s₀.heap.get? b=some o->b∉X.ex->b∉ch:=λb o e hx hb=>by
  rcases(bh b hb).1 with z | z
  ·exact hx z
  ·rw[z] at e;cases e
 have gf:∀x c,X.env.cells.lookup x=some c->∀v,s.heap.IsCell c v->h'.IsCell c v:=λx c e v ⟨o,ho,hd⟩=>by
  have cz:c∉ch:=λz=>(bh c z).2.2.1 x c e rfl
  by_cases hc:c∈X.fs
  ·obtain⟨sl,q⟩:=slot c o (I.cne x c e) hc cz ho (I.freeC x c e);exact⟨_,q,hd⟩
  ·exact⟨o,keep c o (I.cne x c e) hc cz ho (I.freeC x c e),hd⟩
 refine⟨I.ok,I.os,hg,⟨λb o e n hb hx=>?_,λb o e n hb hx=>?_,λb o e n hx=>?_,λb o e hx=>?_,λb xs e=>tups b xs (I.base.tups b xs e),λb o xs e=>frzs b o xs (I.base.frzs b o xs e),λb ps e=>?_⟩,?_,λx c e=>?_,?_,λx c e=>?_,λp hp=>?_,hok,I.len⟩
 ·exact keep b o (fO b o e) hb (fP b o e hx) (I.base.keep b o e n hb hx) (I.base.free b o e n hx)
 ·obtain⟨sl,e1⟩:=I.base.slot b o e n hb hx;obtain⟨ko,e2⟩:=slot b _ (fO b o e) hb (fP b o e hx) e1 (I.base.free b o e n hx);exact⟨ko,e2⟩
 ·obtain⟨o',e1⟩:=I.base.there b o e hx;exact free b o' (fP b o e hx) e1 (I.base.free b o e n hx)
 ·obtain⟨o',e1⟩:=I.base.there b o e hx;exact there b o' (fP b o e hx) e1
 ·obtain⟨m1,e1⟩:=I.base.tbls b ps e;obtain⟨m2,e2⟩:=tbls b _ e1;exact⟨m1++m2,by rw[e2,Array.append_assoc]⟩
 ·obtain⟨m,hn,hl⟩:=I.loc;refine⟨m,ns m hn,λi x v e1 e2 e3=>?_⟩;obtain⟨u,r,l⟩:=hl i x v e1 e2 e3;refine⟨u,r,?_⟩
  rcases l with l | ⟨k,c,e,z⟩
  ·exact .inl l
  ·exact .inr ⟨k,c,e,gf x c e _ z⟩
 ·obtain⟨v,z⟩:=I.cell x c e;exact⟨v,gf x c e v z⟩
 ·obtain⟨m,⟨o,_,_,ho,_⟩,_⟩:=I.loc;exact free _ o (λz=>(bh _ z).2.1 rfl) ho I.free
 ·obtain⟨v,o,ho,hd⟩:=I.cell x c e;exact free c o (λz=>(bh c z).2.2.1 x c e rfl) ho (I.freeC x c e)
 ·obtain⟨e,n,ne,nf,d⟩:=I.pin p hp;have cz:p.1∉ch:=λz=>(bh p.1 z).2.2.2 p hp rfl
  exact⟨keep p.1 p.2 ne nf cz e n,free p.1 p.2 cz e n,ne,nf,d⟩
theorem Inv.step(I:Inv X aa Z H s)(bh:∀b∈ch,(b∈X.ex\/X.s₀.heap.objs.size<=b)/\b≠X.env.locals/\(∀x c,X.env.cells.lookup x=some c->c≠b)/\∀p∈X.pn++aa,p.1≠b)(keep:∀b o,b≠X.env.locals->b∉X.fs->b∉ch->s.heap.get? b=some o->H b=none->h'.get? b=some o)(slot:∀b o,b≠X.env.locals->b∈X.fs->b∉ch->s.heap.get? b=some o->H b=none->∃sl,h'.get? b=some { o with slots:=sl })(free:∀b o,b∉ch->s.heap.get? b=some o->H b=none->H' b=none)(there:∀b o,b∉ch->s.heap.get? b=some o->∃o',h'.get? b=some o')(tups:∀b xs,H b=some (.tup xs)->H' b=some (.tup xs))(frzs:∀b o u,H b=some (.frz o u)->H' b=some (.frz o u))(tbls:∀b ps,H b=some (.tbl ps)->∃more,H' b=some (.tbl (ps++more)))(ns:∀m,s.heap.Ns X.env.locals m->h'.Ns X.env.locals m)(hok:HOk X.prog X.w H' h')(hg:Ut g'):
  Inv X aa Z H' { s with heap:=h',gens:=g',drawn:=d',toks:=t' }:=
 I.stepN (λb hb=>⟨(bh b hb).1.imp id RV.get?_none_of_le,(bh b hb).2⟩) keep slot free there tups frzs tbls ns hok hg
theorem Inv.un(I:Inv X aa Z H s)(u:Un X.fs [] H H' s.heap h')(hok:HOk X.prog X.w H' h'):Inv X aa Z H' { s with heap:=h',toks:=t' }:=by
 obtain⟨m,⟨o,es,ep,ho,r⟩,_⟩:=id I.loc;obtain⟨sl,hL⟩:=u.any ho I.free (by simp)
 exact I.step (g':=s.gens) (d':=s.drawn) (ch:=[]) (λ_ z=>nomatch z) (λb o _ hb _ e n=>u.keep b o e n hb (by simp)) (λb o _ hb _ e n=>u.slot b o e n hb (by simp)) (λb o _ e n=>u.free b o e n (by simp)) (λb o _ e=>u.there b o e (by simp)) u.tups u.frzs u.tbls (λm' hm=>by
  obtain⟨o',es',kq,cn,r'⟩:=hm;rw[ho] at cn;cases cn
  exact⟨_,es',kq,hL,r'⟩) hok I.bare
theorem Inv.callN(I:Inv X aa Z H s)(u:Un (frs X.stack) ch H H' s.heap h')(hok:HOk X.prog X.w H' h')(hg:Ut g')(bh:∀b∈ch,(b∈X.ex\/X.s₀.heap.get? b=none)/\b≠X.env.locals/\(∀x c,X.env.cells.lookup x=some c->c≠b)/\∀p∈X.pn++aa,p.1≠b):
  Inv X aa Z H' { s with heap:=h',gens:=g',drawn:=d',toks:=t' }:=by
 obtain⟨m,⟨o,es,ep,ho,r⟩,_⟩:=id I.loc;obtain⟨sl,hL⟩:=u.any ho I.free λz=>(bh _ z).2.1 rfl
 exact I.stepN (ch:=ch) bh (λb o hL hb hc e n=>u.keep b o e n (λz=>(B_.mp (I.stkSub b z)).elim hL hb) hc) (λb o _ _ hc e n=>u.any e n hc) (λb o hc e n=>u.free b o e n hc) (λb o hc e=>u.there b o e hc) u.tups u.frzs u.tbls (λm' hm=>by
  obtain⟨o',es',kq,cn,r'⟩:=hm;rw[ho] at cn;cases cn
  exact⟨_,es',kq,hL,r'⟩) hok hg
theorem Inv.call(I:Inv X aa Z H s)(u:Un (frs X.stack) ch H H' s.heap h')(hok:HOk X.prog X.w H' h')(hg:Ut g')(bh:∀b∈ch,(b∈X.ex\/X.s₀.heap.objs.size<=b)/\b≠X.env.locals/\(∀x c,X.env.cells.lookup x=some c->c≠b)/\∀p∈X.pn++aa,p.1≠b):
  Inv X aa Z H' { s with heap:=h',gens:=g',drawn:=d',toks:=t' }:=
 I.callN u hok hg λb hb=>⟨(bh b hb).1.imp id RV.get?_none_of_le,(bh b hb).2⟩
theorem Inv.turned{it:i_}(I:Inv X aa Z H s)(k:∀b o,b≠it->s.heap.get? b=some o->h'.get? b=some o)(hn:H it=none)(hL:it≠X.env.locals)(h1:it∈X.ex\/X.s₀.heap.objs.size<=it)(h2:∀x c,X.env.cells.lookup x=some c->c≠it)(h3:∀p∈X.pn++aa,p.1≠it):Inv X aa Z H { s with heap:=h',toks:=t' }:=by
 have mf:∀b u,H b=some u->b≠it:=λb u e z=>by rw[z,hn] at e;cases e
 refine I.step (g':=s.gens) (d':=s.drawn) (ch:=[it]) (λb hb=>?_) (λb o _ _ hc e _=>k b o (λz=>hc (by simp[z])) e) (λb o _ _ hc e _=>⟨o.slots,k b o (λz=>hc (by simp[z])) e⟩) (λ_ _ _ _ n=>n)
  (λb o hc e=>⟨o,k b o (λz=>hc (by simp[z])) e⟩) (λ_ _ e=>e) (λ_ _ _ e=>e) (λb ps e=>⟨#[],by rw[e];simp⟩) (λm hm=>?_) (λb u e=>?_) I.bare
 ·have e:b=it:=by simpa using hb
  subst e;exact⟨h1,hL,h2,h3⟩
 ·obtain⟨o,es,ep,ho,r⟩:=hm;exact⟨o,es,ep,k _ o (R5 hL) ho,r⟩
 ·refine(I.hok b u e).stay (λc v hc q=>k c v ?_ q) (λ_ q=>q) λ_ _ q=>q
  rcases hc with z | z
  ·rw[z];exact mf b u e
  ·exact mf c _ z
theorem Inv.tok(I:Inv X aa Z H s)(t:Nat):Inv X aa Z H { s with toks:=t }:=I.un (h':=s.heap) (t':=t) Un.refl I.hok
theorem Inv.kept(I:Inv X aa Z H s)(k:∀b u,s.heap.get? b=some u->h'.get? b=some u):Inv X aa Z H { s with heap:=h',toks:=t' }:=I.un (Un.kept k) (I.hok.kept k)
theorem Inv.laid{o:HO}(I:Inv X aa Z H s)(k:∀b u,s.heap.get? b=some u->h'.get? b=some u)(hp:s.heap.objs.size<=a)(new:ObjOk X.prog X.w (upd H a o) h' a o):
  Inv X aa Z (upd H a o) { s with heap:=h',toks:=t' }:=I.un (Un.laid k hp (I.hok.fresh hp)) (I.hok.laid k hp new)
theorem Inv.write{x e:i_}{o:HO}(I:Inv X aa Z H s)(mu:Mut (H x))(he:e=x\/H e=some (.own x))(k:∀b u,b≠e->s.heap.get? b=some u->h'.get? b=some u)(fN:∃u,h'.get? e=some u)(new:ObjOk X.prog X.w (upd H x o) h' x o):Inv X aa Z (upd H x o) { s with heap:=h',toks:=t' }:=I.un (Un.write mu he k fN) (I.hok.write mu he k fN new)
theorem Inv.pins_of(I:Inv X aa Z H s)(h:∀p∈gj,s.heap.get? p.1=some p.2/\H p.1=none/\p.1≠X.env.locals/\p.1∉X.fs/\∀v,p.2.data≠.cell v):Inv X gj Z H s:=
 ⟨I.ok,I.os,I.bare,I.base,I.loc,I.cell,I.free,I.freeC,λp hp=>(P_.mp hp).elim (λz=>I.pin p (Sk _ z)) (h p),I.hok,I.len⟩
theorem Au(hN:N.Nodup){x:Str}(a:N[i]?=some x)(b:N[j]?=some x):i=j:=by
 obtain⟨h1,e1⟩:=o_.mp a;obtain⟨h2,e2⟩:=o_.mp b;exact(List.getElem_inj hN).mp (e1.trans e2.symm)
theorem GJ{M:Xr}{E:b_->c_->Prop}{x:Str}{v:V}{Q:Unit->c_->Prop}(I:Inv X aa Z H s)(hN:X.N.Nodup)(hi:X.N[i]?=some x)(hx:Loc X.env.scope x)(r:RelV v u)(h:∀s',Inv X aa (Z.set i (some v)) H s'->(∃a,RV.SameBut a s.heap s'.heap/\(a=X.env.locals\/X.env.cells.lookup x=some a))->Q () s')(hf:X.fn x=true\/X.env.scope.names.lookup x=some .local):r_ M A (storeName X.env x u) Q E s:=by
 obtain⟨m,hn,hl⟩:=id I.loc;have mh:(X.env.scope.kind == .class||(X.env.scope.kind == .module&&X.env.locals != X.env.globals))=false:=by rw[I.ok.kind];rfl
 have jX:i < Z.length:=by rw[I.len];exact(o_.mp hi).1
 have cne:=I.cne
 have dk:∀{a:i_}{h':RV},(∃o,s.heap.get? a=some o/\H a=none)->RV.SameBut a s.heap h'->HOk X.prog X.w H h':=λ{a h'} ha hs b ob e=>by
  obtain⟨_,_,gm⟩:=ha;refine(I.hok b ob e).stay (λc w' hc q=>(hs.2 c ?_).trans q) (λ_ q=>q) λ_ _ q=>q
  rintro rfl
  rcases hc with rfl | hc
  ·rw[gm] at e;cases e
  ·rw[gm] at hc;cases hc
 rcases hx with hk | hk
 ·refine wpAny_storeName_local hk hn (λh' eW hs=>?_) mh;obtain⟨oL,_,_,mn,_⟩:=id hn;refine h _ ⟨I.ok,I.os,I.bare,⟨λb o e n hb hx=>?_,λb o e n hb hx=>?_,I.base.free,λb o e hx=>?_,I.base.tups,I.base.frzs,I.base.tbls⟩,⟨_,eW,λj y v' e1 e2 e3=>?_⟩,λy c e=>?_,I.free,I.freeC,λp hp=>?_,dk ⟨oL,mn,I.free⟩ hs,by simpa using I.len⟩ ⟨_,hs,.inl rfl⟩
  ·exact(hs.2 b (R0 (K_ (E_ e) I.ok.above))).trans (I.base.keep b o e n hb hx)
  ·obtain⟨sl,e1⟩:=I.base.slot b o e n hb hx;exact⟨sl,(hs.2 b (R0 (K_ (E_ e) I.ok.above))).trans e1⟩
  ·obtain⟨o',e1⟩:=I.base.there b o e hx;exact⟨o',(hs.2 b (R0 (K_ (E_ e) I.ok.above))).trans e1⟩
  ·by_cases hj:j=i
   ·subst hj;rw[hi] at e1;cases e1;rw[Tk jX] at e2;cases e2;exact⟨u,r,.inl ⟨hk,by simp⟩⟩
   ·rw[R_ (R5 hj)] at e2;obtain⟨u',r',q⟩:=hl j y v' e1 e2 e3;refine⟨u',r',?_⟩
    rcases q with⟨k,e⟩ | ⟨k,c,e,z⟩
    ·refine .inl ⟨k,?_⟩;have:y≠x:=λe=>hj (Au hN e1 (e▸hi))
     simp[this,e]
    ·exact .inr ⟨k,c,e,z.sameBut hs (cne y c e)⟩
  ·obtain⟨w',z⟩:=I.cell y c e;exact⟨w',z.sameBut hs (cne y c e)⟩
  ·obtain⟨e,n,ne,nf,d⟩:=I.pin p hp;exact⟨(hs.2 p.1 ne).trans e,n,ne,nf,d⟩
 ·have kt:X.fn x=true:=by
   rcases hf with z | z
   ·exact z
   ·rw[z] at hk;cases hk
  obtain⟨c,hc⟩:=I.ok.has x (.inl hk);obtain⟨w',z⟩:=I.cell x c hc;refine wpAny_storeName_cell I.ok.kind hk hc z (λh' aW hs=>?_);obtain⟨oc,mq,mr⟩:=id z;refine h { s with heap:=h' } ⟨I.ok,I.os,I.bare,⟨λb o e n hb hx=>?_,λb o e n hb hx=>?_,I.base.free,λb o e hx=>?_,I.base.tups,I.base.frzs,I.base.tbls⟩,⟨m,hn.sameBut hs (R5 (cne x c hc)),λj y v' e1 e2 e3=>?_⟩,λy c' e=>?_,I.free,I.freeC,λp hp=>?_,dk ⟨oc,mq,I.freeC x c hc⟩ hs,by simpa using I.len⟩ ⟨c,hs,.inr hc⟩
  ·exact(hs.2 b (R0 (K_ (E_ e) (I.ok.cab x c kt hc)))).trans (I.base.keep b o e n hb hx)
  ·obtain⟨sl,e1⟩:=I.base.slot b o e n hb hx;exact⟨sl,(hs.2 b (R0 (K_ (E_ e) (I.ok.cab x c kt hc)))).trans e1⟩
  ·obtain⟨o',e1⟩:=I.base.there b o e hx;exact⟨o',(hs.2 b (R0 (K_ (E_ e) (I.ok.cab x c kt hc)))).trans e1⟩
  ·by_cases hj:j=i
   ·subst hj;rw[hi] at e1;cases e1;rw[Tk jX] at e2;cases e2;exact⟨u,r,.inr ⟨.inl hk,c,hc,aW⟩⟩
   ·rw[R_ (R5 hj)] at e2;obtain⟨u',r',q⟩:=hl j y v' e1 e2 e3;refine⟨u',r',?_⟩
    rcases q with q | ⟨k,c',e,z'⟩
    ·exact .inl q
    ·refine .inr ⟨k,c',e,z'.sameBut hs ?_⟩;rintro rfl;exact hj (Au hN e1 (I.ok.inj _ _ _ e hc▸hi))
  ·by_cases kw:c'=c
   ·subst kw;exact⟨_,aW⟩
   ·obtain⟨w2,z2⟩:=I.cell y c' e;exact⟨w2,z2.sameBut hs kw⟩
  ·obtain⟨e,n,ne,nf,d⟩:=I.pin p hp;refine⟨(hs.2 p.1 ?_).trans e,n,ne,nf,d⟩;intro q;rw[q,mq] at e;have q':oc=p.2:=RY e;exact d w' (by rw[←q'];exact mr)
theorem AC{M:Xr}{E:b_->c_->Prop}{x:Str}{v:V}{Q:Unit->c_->Prop}(I:Inv X aa Z H s)(hN:X.N.Nodup)(hi:X.N[i]?=some x)(hx:Loc X.env.scope x)(r:RelV v u)(h:∀s',Inv X aa (Z.set i (some v)) H s'->Q () s')(hf:X.fn x=true\/X.env.scope.names.lookup x=some .local):r_ M A (storeName X.env x u) Q E s:=
 GJ I hN hi hx r (λs' I' _=>h s' I') hf
theorem Inv.call'(I:Inv X aa Z H s)(ho:s'.os=s.os)(u:Un (frs X.stack) ch H H' s.heap s'.heap)(hok:HOk X.prog X.w H' s'.heap)(hg:Ut s'.gens)(bh:∀b∈ch,(b∈X.ex\/X.s₀.heap.objs.size<=b)/\b≠X.env.locals/\(∀x c,X.env.cells.lookup x=some c->c≠b)/\∀p∈X.pn++aa,p.1≠b):Inv X aa Z H' s':=by
 obtain⟨h',g',d',t',o'⟩:=s';have e:o'=s.os:=ho;subst e;exact I.call (g':=g') (t':=t') (d':=d') u hok hg bh
end
abbrev XK:=b_->Option i_->Hp->Prop
abbrev St:=List (Option V)
abbrev VK:=V->Hp->Prop
abbrev TE:=St->Hp->VK->Prop
abbrev TT:=St->Hp->(Bool->Hp->Prop)->Prop
abbrev TA:=St->Hp->(List V->Hp->Prop)->Prop
structure Ends where
 nx:St->Hp->Prop
 rt:VK
 bk:St->Hp->Prop:=λ_ _=>False
 ct:St->Hp->Prop:=λ_ _=>False
abbrev TS:=Ends->St->Hp->Prop
def EP(X:Cx)(aa:List (i_×Obj))(Z:St)(Q:VK)(u:b_)(s':c_):Prop:=∃v H',Inv X aa Z H' s'/\RelV v u/\Q v H'
def TP(X:Cx)(aa:List (i_×Obj))(Z:St)(Q:Bool->Hp->Prop)(b:Bool)(s':c_):Prop:=∃H',Inv X aa Z H' s'/\Q b H'
def AP(X:Cx)(aa:List (i_×Obj))(Z:St)(Q:List V->Hp->Prop)(us:List b_)(s':c_):Prop:=∃vs H',Inv X aa Z H' s'/\Vals vs us/\Q vs H'
def SP(X:Cx)(aa:List (i_×Obj))(D:Ends)(f:Flow)(s':c_):Prop:=
 match f with
 | .next=>∃ah H',Inv X aa ah H' s'/\D.nx ah H'
 | .brk=>∃ah H',Inv X aa ah H' s'/\D.bk ah H'
 | .cont=>∃ah H',Inv X aa ah H' s'/\D.ct ah H'
 | .ret u=>∃v ah H',Inv X aa ah H' s'/\RelV v u/\D.rt v H'
def PE(X:Cx)(e:RW)(t:TE):Prop:=
 ∀(aa:List (i_×Obj)) (s:c_) (Z:St) (H:Hp) (Q:VK),Inv X aa Z H s->t Z H Q->r_ (t_ X.prog X.w) X.A (eval e X.env) (EP X aa Z Q) X.xe s
def PT(X:Cx)(e:RW)(t:TT):Prop:=
 ∀(aa:List (i_×Obj)) (s:c_) (Z:St) (H:Hp) (Q:Bool->Hp->Prop),Inv X aa Z H s->t Z H Q->r_ (t_ X.prog X.w) X.A (XH e X.env (eval e X.env)) (TP X aa Z Q) X.xe s
def PW(X:Cx)(e:RW)(t:TT):Prop:=
 ∀(bT:Sem b_) (aa:List (i_×Obj)) (s:c_) (Z:St) (H:Hp) (Q:Bool->Hp->Prop),Inv X aa Z H s->t Z H Q->r_ (t_ X.prog X.w) X.A (XH e X.env bT) (TP X aa Z Q) X.xe s
def PA(X:Cx)(es:List RW)(t:TA):Prop:=
 ∀(pos:Pos) (aa:List (i_×Obj)) (s:c_) (Z:St) (H:Hp) (Q:List V->Hp->Prop),Inv X aa Z H s->t Z H Q->r_ (t_ X.prog X.w) X.A (spliced (R4 pos (e_ es X.env))) (AP X aa Z Q) X.xe s
def PS(X:Cx)(st:Sb)(t:TS):Prop:=
 ∀(aa:List (i_×Obj)) (s:c_) (Z:St) (H:Hp) (D:Ends),Inv X aa Z H s->t D Z H->r_ (t_ X.prog X.w) X.A (exec st X.env) (SP X aa D) X.xe s
def PSs(X:Cx)(st:List Sb)(t:TS):Prop:=
 ∀(aa:List (i_×Obj)) (s:c_) (Z:St) (H:Hp) (D:Ends),Inv X aa Z H s->t D Z H->r_ (t_ X.prog X.w) X.A (execs st X.env) (SP X aa D) X.xe s
theorem thn{α:Type}{t:Sem α}{Q Q':α->c_->Prop}{M:Xr}{E:b_->c_->Prop}{s:c_}(h:r_ M A t Q E s)(hQ:∀a s,Q a s->Q' a s):r_ M A t Q' E s:=Sa h hQ λ_ _ x=>x
section
variable {X:Cx}
noncomputable def tVar(i:Nat):TE:=λZ H Q=>∃v,Z[i]?=some (some v)/\Q v H
noncomputable def tC(v:V):TE:=λ_ H Q=>Q v H
theorem KY{x:Str}(hN:X.N[i]?=some x)(hv:Vis X.env.scope x)(hd:(x == ("__debug__":Str))=false:=by decide)(cp:(x == ("__classdict__":Str))=false:=by decide):PE X (.Name x pos) (tVar i):=by
 intro aa s Z H Q I h;obtain⟨v,e,h⟩:=h;obtain⟨m,hn,hl⟩:=I.loc;obtain⟨u,r,l⟩:=hl i x v hN e hv;have fin:EP X aa Z Q u s:=⟨v,H,I,r,h⟩
 rcases l with⟨hk,hm⟩ | ⟨hk,c,hc,gr⟩
 ·exact XJ (wpAny_loadName_local I.ok.kind hk hn hm fin) hd
 ·rcases hk with hk | hk
  ·exact XJ (wpAny_loadName_cell I.ok.kind hk hc gr fin) hd
  ·exact XJ (wpAny_loadName_free I.ok.kind hk hc gr fin cp) hd
theorem Nz{i j pos}:PE X (.Constant (.int i) j pos) (tC (.int i)):=λ_ _ _ H _ I h=>wpAny_Constant_int ⟨.int i,H,I.tok _,⟨_,rfl⟩,h⟩
theorem MO{b j pos}:PE X (.Constant (.bool b) j pos) (tC (.bl b)):=λ_ _ _ H _ I h=>Constant_bool ⟨.bl b,H,I,rfl,h⟩
theorem Op{j pos}:PE X (.Constant .none j pos) (tC .non):=λ_ _ _ H _ I h=>Constant_none ⟨.non,H,I,rfl,h⟩
theorem Jw{x j pos}:PE X (.Constant (.str x) j pos) (tC (.str x)):=λ_ _ _ H _ I h=>Uf ⟨.str x,H,I.tok _,⟨_,rfl⟩,h⟩
def Gl(X:Cx)(x:Str):Prop:=X.env.kindOf x=some .globalImplicit
theorem wL{E:b_->c_->Prop}{s:c_}{Z:St}{H:Hp}{x:Str}{Q:b_->c_->Prop}(I:Inv X aa Z H s)(hg:Gl X x)(hm:X.mg x=some u)(h:Q u s)(hd:(x == ("__debug__":Str))=false:=by decide):r_ (t_ X.prog X.w) X.A (eval (.Name x pos) X.env) Q E s:=
 Vi I.ok.kind hg (Calls.loadGlobal_global (by rw[I.ok.glob];exact I.mod.glob.keeps I.bk) hm h) hd
theorem uu{E:b_->c_->Prop}{s:c_}{Z:St}{H:Hp}{x:Str}{Q:b_->c_->Prop}(I:Inv X aa Z H s)(hg:Gl X x)(hm:X.mg x=none)(hv:SR x=some u)(h:Q u s)(hn:x ≠ "__name__":=by decide)(hd:(x == ("__debug__":Str))=false:=by decide):r_ (t_ X.prog X.w) X.A (eval (.Name x pos) X.env) Q E s:=by
 obtain⟨mb,h1,h2⟩:=I.mod.blt;exact Vi I.ok.kind hg (Calls.loadGlobal_builtin (by rw[I.ok.glob];exact I.mod.glob.keeps I.bk) hm (by rw[I.ok.blt];exact h1.keeps I.bk) ((h2 x hn).trans hv) h) hd
theorem Iq{x:Str}{v:V}(hg:Gl X x)(hm:X.mg x=some u)(r:RelV v u)(hd:(x == ("__debug__":Str))=false:=by decide):PE X (.Name x pos) (tC v):=
 λ_ _ _ H _ I h=>wL I hg hm ⟨v,H,I,r,h⟩ hd
theorem N6{x:Str}{v:V}(hg:Gl X x)(hm:X.mg x=none)(hv:SR x=some u)(r:RelV v u)(hn:x ≠ "__name__":=by decide)(hd:(x == ("__debug__":Str))=false:=by decide):PE X (.Name x pos) (tC v):=
 λ_ _ _ H _ I h=>uu I hg hm hv ⟨v,H,I,r,h⟩ hn hd
variable{a b:RW}{ta tb:TE}
noncomputable def tB(t:TE):TT:=λZ H Q=>t Z H λx H1=>∃c,x=.bl c/\Q c H1
theorem ON{t:TE}(h:PE X e t)(he:∀bT,XH e X.env bT=(do let v ←bT;X_ e.pos;Va [v] (truthy v)):=by intros;rfl):PT X e (tB t):=by
 intro aa s Z H Q I hw;refine isTrue_plain (thn (h aa s Z H _ I hw) λv s1 ⟨x,H1,I1,r1,q1⟩=>?_) (he _);obtain⟨d,rfl,q⟩:=q1;cases r1;exact So ⟨H1,I1,q⟩
variable{tA iR:TT}
noncomputable def tAnd(t u:TT):TT:=λZ H Q=>t Z H λc H1=>if c=true then u Z H1 Q else Q false H1
noncomputable def tOr(t u:TT):TT:=λZ H Q=>t Z H λc H1=>if c=true then Q true H1 else u Z H1 Q
noncomputable def tNot(t:TT):TT:=λZ H Q=>t Z H λc H1=>Q (!c) H1
theorem NG(ha:PT X a tA):PW X (.BoolOp .And [a] pos) tA:=by
 intro wh aa s Z H Q I h;refine isTrue_and (thn (ha aa s Z H Q I h) λc s1 e=>?_);cases c with
 | true=>exact isTrue_and_nil e
 | false=>exact e
theorem OZ(ha:PT X a tA):PW X (.BoolOp .Or [a] pos) tA:=by
 intro wh aa s Z H Q I h;refine isTrue_or (thn (ha aa s Z H Q I h) λc s1 e=>?_);cases c with
 | false=>exact isTrue_or_nil e
 | true=>exact e
theorem Jh(ha:PT X a tA)(hb:PW X (.BoolOp .And (b::ao) pos) iR):PW X (.BoolOp .And (a::b::ao) pos) (tAnd tA iR):=by
 intro wh aa s Z H Q I h;refine isTrue_and (thn (ha aa s Z H _ I h) λc s1 ⟨H1,I1,q1⟩=>?_);cases c with
 | true=>exact hb wh aa s1 Z H1 Q I1 q1
 | false=>exact⟨H1,I1,q1⟩
theorem Po(ha:PT X a tA)(hb:PW X (.BoolOp .Or (b::ao) pos) iR):PW X (.BoolOp .Or (a::b::ao) pos) (tOr tA iR):=by
 intro wh aa s Z H Q I h;refine isTrue_or (thn (ha aa s Z H _ I h) λc s1 ⟨H1,I1,q1⟩=>?_);cases c with
 | true=>exact⟨H1,I1,q1⟩
 | false=>exact hb wh aa s1 Z H1 Q I1 q1
theorem Pi(ha:PT X a tA):PT X (.UnaryOp .Not a pos) (tNot tA):=by
 intro aa s Z H Q I h;exact isTrue_not (ha aa s Z H (λc H1=>Q (!c) H1) I h)
noncomputable def tAndV(ta tb:TE):TE:=λZ H Q=>ta Z H λx H1=>∃c,x=.bl c/\if c=true then tb Z H1 Q else Q (.bl false) H1
theorem HI{op}{t:TE}(h:PE X a t):PE X (.BoolOp op [a] pos) t:=λaa s Z H Q I hw=>BoolOp_one (h aa s Z H Q I hw)
theorem Lf(ha:PE X a ta)(hb:PE X (.BoolOp .And (b::ao) pos) tb):PE X (.BoolOp .And (a::b::ao) pos) (tAndV ta tb):=by
 intro aa s Z H Q I h;refine BoolOp_and (thn (ha aa s Z H _ I h) λv s1 ⟨x,H1,I1,r1,q1⟩=>?_);obtain⟨c,rfl,q1⟩:=q1;cases r1;refine So ?_;cases c with
 | true=>exact hb aa s1 Z H1 Q I1 q1
 | false=>exact⟨.bl false,H1,I1,rfl,q1⟩
noncomputable def tIf(t:TT)(ta tb:TE):TE:=λZ H Q=>t Z H λc H1=>if c=true then ta Z H1 Q else tb Z H1 Q
theorem LX{c:RW}(hc:PT X c tA)(ha:PE X a ta)(hb:PE X b tb):PE X (.IfExp c a b pos) (tIf tA ta tb):=by
 intro aa s Z H Q I h;refine wpAny_IfExp (thn (hc aa s Z H _ I h) λd s1 ⟨H1,I1,q1⟩=>?_);cases d with
 | true=>exact ha aa s1 Z H1 Q I1 q1
 | false=>exact hb aa s1 Z H1 Q I1 q1
end
def SqL(K:PySem.W.Frag)(H:Hp)(a:i_)(xs:List V):Prop:=
 Rd H a (.lst xs) ∨
  ∃(o:Obj) (ac:Array b_) (n:Nat),K.lookup a=some o/\o.cls=.type "list"/\o.dict=none/\o.data=.seq ac n/\ac.size<=A_/\Vals xs ac.toList
def SqT(K:PySem.W.Frag)(H:Hp)(a:i_)(xs:List V):Prop:=
 Rd H a (.tup xs) ∨
  ∃(o:Obj) (ac:Array b_) (n:Nat),K.lookup a=some o/\o.cls=.type "tuple"/\o.data=.seq ac n/\ac.size<=A_/\Vals xs ac.toList
noncomputable def absV:b_->Option V
 | .none=>some .non
 | .bool b=>some (.bl b)
 | .int i _=>some (.int i)
 | .str x _=>some (.str x)
 | .bytes b _=>some (.byt b)
 | .float b _=>some (.flt b)
 | .ref a=>some (.ref a)
 | .type n=>some (.ty n)
 | _=>none
theorem RelV.abs{x:V}(r:RelV x u):absV u=some x:=by
 cases x with
 | non=>cases r;rfl
 | bl _=>cases r;rfl
 | int _=>obtain⟨t,rfl⟩:=r;rfl
 | str _=>obtain⟨t,rfl⟩:=r;rfl
 | byt _=>obtain⟨t,rfl⟩:=r;rfl
 | flt _=>obtain⟨t,rfl⟩:=r;rfl
 | ref _=>cases r;rfl
 | ty _=>cases r;rfl
theorem RelV.inj{x y:V}(r:RelV x u)(q:RelV y u):x=y:=RY (r.abs.symm.trans q.abs)
theorem Vals.inj:∀{xs ys:List V}{us:List b_},Vals xs us->Vals ys us->xs=ys
 | _,_,_,.nil,.nil=>rfl
 | _,_,_,.cons r t,.cons r' t'=>by rw[r.inj r',Vals.inj t t']
section
variable{X:Cx}{Z:St}{H:Hp}{s:c_}{xs ys:List V}
theorem SqL.of{K:PySem.W.Frag}(h:H a=some (.lst xs)):SqL K H a xs:=.inl (.inl h)
theorem SqT.of{K:PySem.W.Frag}(h:H a=some (.tup xs)):SqT K H a xs:=.inl (.inl h)
theorem Inv.list(I:Inv X aa Z H s)(h:SqL X.K H a xs):∃ac:List b_,Vals xs ac/\PlainL s.heap a ac.toArray/\xs.length<=A_:=by
 rcases h with h | ⟨o,ac,n,hk,hc,hd,hs,hz,r⟩
 ·obtain⟨z,ac,n,r,e⟩:=h.ok I.hok;exact⟨ac,r,⟨_,n,e,rfl,rfl,rfl⟩,z⟩
 ·refine⟨ac.toList,r,⟨o,n,I.kIn a o hk,hc,hd,by simpa using hs⟩,?_⟩;have e:=r.length;simp only[Ss] at e;omega
theorem Inv.tuple(I:Inv X aa Z H s)(h:SqT X.K H a xs):∃ac:List b_,Vals xs ac/\XF s.heap a ac.toArray/\xs.length<=A_:=by
 rcases h with h | ⟨o,ac,n,hk,hc,hs,hz,r⟩
 ·obtain⟨z,ac,r,p⟩:=h.ok I.hok;exact⟨ac,r,p,z⟩
 ·refine⟨ac.toList,r,⟨o,I.kIn a o hk,hc,n,by simpa using hs⟩,?_⟩;have e:=r.length;simp only[Ss] at e;omega
theorem Inv.list_inj(I:Inv X aa Z H s)(h:SqL X.K H a xs)(h':SqL X.K H a ys):xs=ys:=by
 obtain⟨ac,r,⟨o,n,e,_,_,d⟩,_⟩:=I.list h;obtain⟨its',r',⟨o',n',e',_,_,d'⟩,_⟩:=I.list h';rw[e] at e';cases e';rw[d] at d';injection d' with d1 _
 have:ac=its':=by simpa using congrArg toList d1
 subst this;exact r.inj r'
theorem Inv.tuple_inj(I:Inv X aa Z H s)(h:SqT X.K H a xs)(h':SqT X.K H a ys):xs=ys:=by
 obtain⟨ac,r,⟨o,e,_,n,d⟩,_⟩:=I.tuple h;obtain⟨its',r',⟨o',e',_,n',d'⟩,_⟩:=I.tuple h';rw[e] at e';cases e';rw[d] at d';injection d' with d1 _
 have:ac=its':=by simpa using congrArg toList d1
 subst this;exact r.inj r'
end
noncomputable abbrev Cx.wish(X:Cx)(E:b_->c_->Prop):Cx:={ X with xe:=E }
noncomputable abbrev Cx.nox(X:Cx):Cx:=X.wish λ_ _=>False
theorem Cx.Ok.wish{X:Cx}(ok:X.Ok)(E:b_->c_->Prop):(X.wish E).Ok:=
 ⟨ok.mod,ok.kind,ok.glob,ok.blt,ok.above,ok.inj,ok.has,ok.cab,ok.hd,ok.frames,ok.stk,ok.exf,ok.bs,ok.bsz,ok.noex,ok.exfs,ok.funs,ok.frf⟩
theorem Cx.Ok.unwish{X:Cx}{E:b_->c_->Prop}(ok:(X.wish E).Ok):X.Ok:=
 ⟨ok.mod,ok.kind,ok.glob,ok.blt,ok.above,ok.inj,ok.has,ok.cab,ok.hd,ok.frames,ok.stk,ok.exf,ok.bs,ok.bsz,ok.noex,ok.exfs,ok.funs,ok.frf⟩
section
variable{X:Cx}{Z:St}{H:Hp}{s:c_}{E:b_->c_->Prop}
theorem Inv.wish(I:Inv X aa Z H s)(E:b_->c_->Prop):Inv (X.wish E) aa Z H s:=⟨I.ok.wish E,I.os,I.bare,I.base,I.loc,I.cell,I.free,I.freeC,I.pin,I.hok,I.len⟩
theorem Inv.unwish(I:Inv (X.wish E) aa Z H s):Inv X aa Z H s:=⟨I.ok.unwish,I.os,I.bare,I.base,I.loc,I.cell,I.free,I.freeC,I.pin,I.hok,I.len⟩
theorem SP.unwish{D:Ends}{f:Flow}(h:SP (X.wish E) aa D f s'):SP X aa D f s':=by
 cases f with
 | next=>obtain⟨ah,H',I,q⟩:=h;exact⟨ah,H',I.unwish,q⟩
 | brk=>obtain⟨ah,H',I,q⟩:=h;exact⟨ah,H',I.unwish,q⟩
 | cont=>obtain⟨ah,H',I,q⟩:=h;exact⟨ah,H',I.unwish,q⟩
 | ret u=>obtain⟨v,ah,H',I,r,q⟩:=h;exact⟨v,ah,H',I.unwish,r,q⟩
theorem PE.nox{t:TE}(h:PE X.nox e t):PE X e t:=λaa s Z H Q I hw =>
 Sa (h aa s Z H Q (I.wish _) hw) (λ_ _ ⟨v,H',I',r,q⟩=>⟨v,H',I'.unwish,r,q⟩) λ_ _ z=>X' z
theorem PSs.nox{st:List Sb}{t:TS}(h:PSs X.nox st t):PSs X st t:=λaa s Z H D I hw =>
 Sa (h aa s Z H D (I.wish _) hw) (λ_ _ q=>q.unwish) λ_ _ z=>X' z
end
section
variable{X:Cx}{st:Sb}{ao:List Sb}{t u:TS}{te:TE}
noncomputable def tNext:TS:=λD Z H=>D.nx Z H
noncomputable def tSeq(t u:TS):TS:=λD Z H=>t { D with nx:=u D } Z H
theorem Mb:PSs X [] tNext:=λ_ _ Z H _ I h=>U5 ⟨Z,H,I,h⟩
theorem Cj(h1:PS X st t)(h2:PSs X ao u):PSs X (st::ao) (tSeq t u):=by
 intro aa s Z H D I h;refine wpAny_execs_cons (thn (h1 aa s Z H { D with nx:=u D } I h) λf s1 q=>?_);cases f with
 | next =>
  obtain⟨ah,H',I',q⟩:=q;exact h2 aa s1 ah H' D I' q
 | ret v=>exact q
 | brk=>exact q
 | cont=>exact q
theorem D'(h1:PS X st t):PSs X [st] t:=by
 intro aa s Z H D I h;refine wpAny_execs_cons (thn (h1 aa s Z H D I h) λf s1 q=>?_);cases f with
 | next=>exact U5 q
 | ret v=>exact q
 | brk=>exact q
 | cont=>exact q
theorem Inv.quiet{Z:St}{H:Hp}{s:c_}(I:Inv X aa Z H s):interactive X.env=false:=by simp[interactive,I.ok.kind]
noncomputable def tDrop(te:TE):TS:=λD Z H=>te Z H λ_ H1=>D.nx Z H1
theorem zL(he:PE X e te)(hs:SK e none pos.line X.env=pure false:=by rfl):PS X (.Expr e pos) (tDrop te):=by
 intro aa s Z H D I h;exact wpAny_Expr_any (thn (he aa s Z H _ I h) λv s1 ⟨x,H1,I1,r1,q1⟩=>⟨Z,H1,I1,q1⟩) I.quiet hs
noncomputable def tRet(te:TE):TS:=λD Z H=>te Z H D.rt
theorem y9(he:PE X e te):PS X (.Return (some e) pos) (tRet te):=by
 intro aa s Z H D I h;exact wpAny_Return_some (thn (he aa s Z H _ I h) λv s1 ⟨x,H1,I1,r1,q1⟩=>⟨x,Z,H1,I1,r1,q1⟩)
noncomputable def tIfS(c:TT)(t u:TS):TS:=λD Z H=>c Z H λb H1=>if b=true then t D Z H1 else u D Z H1
theorem Dk{c:RW}{a b:List Sb}{tc:TT}(hc:PT X c tc)(ha:PSs X a t)(hb:PSs X b u):PS X (.If c a b pos) (tIfS tc t u):=by
 intro aa s Z H D I h;refine wpAny_If (thn (hc aa s Z H _ I h) λd s1 ⟨H1,I1,q1⟩=>?_);cases d with
 | true=>exact ha aa s1 Z H1 D I1 q1
 | false=>exact hb aa s1 Z H1 D I1 q1
noncomputable def tNever:TS:=λ_ _ _=>False
theorem IW:PS X st tNever:=λ_ _ _ _ _ _ h=>h.elim
end
abbrev TG:=V->St->Hp->(St->Hp->Prop)->Prop
abbrev TGs:=List V->St->Hp->(St->Hp->Prop)->Prop
def PG(X:Cx)(iS:RW)(t:TG):Prop:=
 ∀(aa:List (i_×Obj)) (s:c_) (Z:St) (H:Hp) (v:V) (u:b_) (Q:St->Hp->Prop),Inv X aa Z H s->RelV v u->t v Z H Q →
  r_ (t_ X.prog X.w) X.A (Vj iS X.env u) (λ_ s'=>∃ah H',Inv X aa ah H' s'/\Q ah H') X.xe s
def PGs(X:Cx)(ts:List RW)(t:TGs):Prop:=
 ∀(aa:List (i_×Obj)) (s:c_) (Z:St) (H:Hp) (vs:List V) (us:List b_) (Q:St->Hp->Prop),Inv X aa Z H s->Vals vs us->t vs Z H Q →
  r_ (t_ X.prog X.w) X.A (assignInOrder ((SZ ts X.env).map (·.2)) us) (λ_ s'=>∃ah H',Inv X aa ah H' s'/\Q ah H') X.xe s
abbrev TSet:=V->V->V->Hp->(Hp->Prop)->Prop
def PSet(X:Cx)(t:TSet):Prop:=
 ∀(aa:List (i_×Obj)) (s:c_) (Z:St) (H:Hp) (o i v:V) (ov iv u:b_) (Q:Hp->Prop),Inv X aa Z H s->RelV o ov->RelV i iv->RelV v u->t o i v H Q →
  r_ (t_ X.prog X.w) X.A (setItem ov iv u) (λ_ s'=>∃H',Inv X aa Z H' s'/\Q H') X.xe s
section
variable{X:Cx}
noncomputable def gName(i:Nat):TG:=λv Z H Q=>Q (Z.set i (some v)) H
theorem LY{x:Str}(hN:X.N.Nodup)(hi:X.N[i]?=some x)(hx:Loc X.env.scope x)(hf:X.fn x=true\/X.env.scope.names.lookup x=some .local):PG X (.Name x pos) (gName i):=by
 intro aa s Z H v u Q I r h;exact W4 (AC I hN hi hx r (λs' I'=>⟨_,H,I',h⟩) hf)
noncomputable def gNil:TGs:=λvs Z H Q=>vs=[]/\Q Z H
noncomputable def gCons(t:TG)(u:TGs):TGs:=λvs Z H Q=>∃v r,vs=v::r/\t v Z H λah H'=>u r ah H' Q
theorem Pv:PGs X [] gNil:=by
 intro aa s Z H vs us Q I r h;obtain⟨e,h⟩:=h;subst e;cases r;exact assignInOrder_nil ⟨Z,H,I,h⟩
theorem OG{es:List RW}{t:TG}{u:TGs}(h1:PG X e t)(h2:PGs X es u)(hs:(SZ (e::es) X.env).map (·.2)=Vj e X.env::(SZ es X.env).map (·.2):=by rfl):PGs X (e::es) (gCons t u):=by
 intro aa s Z H vs us Q I r h;obtain⟨v,vr,e1,h⟩:=h;subst e1;cases r with
 | cons r rr =>
  rw[hs];refine assignInOrder_cons (thn (h1 aa s Z H _ _ _ I r h) λ_ s1 ⟨dJ,H1,I1,q1⟩=>?_);exact h2 aa s1 dJ H1 _ _ Q I1 rr q1
noncomputable def gTup(K:PySem.W.Frag)(n:Nat)(t:TGs):TG:=λv Z H Q=>∃a xs,v=.ref a/\SqT K H a xs/\xs.length=n/\t xs Z H Q
theorem P4{es:List RW}{t:TGs}(hc:X.calm=true)(h:PGs X es t)(hn:(SZ es X.env).length=n:=by rfl)(gw:(SZ es X.env).findIdx? (·.1)=none:=by rfl):PG X (.Tuple es k pos) (gTup X.K n t):=by
 intro aa s Z H v u Q I r hw;obtain⟨a,xs,e1,hq,hl,hw⟩:=hw;subst e1;cases r;obtain⟨ac,rv,ht,hz⟩:=I.tuple hq;refine assign_Tuple_tuple (I.ok.hd hc) ht (by simp[hn,←hl,rv.length]) gw λh' hx=>?_
 have I1:Inv X aa Z H { s with heap:=h' }:=I.kept (t':=s.toks) λb o e=>hx b o (R0 (E_ e)) e
 exact h aa _ Z H xs _ Q I1 (by simpa using rv) hw
noncomputable def gSub(to ti:TE)(t:TSet):TG:=λv Z H Q=>to Z H λo H1=>ti Z H1 λi H2=>t o i v H2 λH3=>Q Z H3
theorem Oo{o i:RW}{to ti:TE}{t:TSet}(ho:PE X o to)(hi:PE X i ti)(hs:PSet X t)(ha:∀v,Vj (.Subscript o i pos) X.env v=(do
   let ov ←Va [v] (eval o X.env)
   let iv ←Va [v,ov] (eval i X.env)
   X_ pos
   Va [v,ov,iv] (setItem ov iv v)
   release [v,ov,iv] []):=by intros;rfl):PG X (.Subscript o i pos) (gSub to ti t):=by
 intro aa s Z H v u Q I r h;rw[ha];refine a_ (Sd (thn (ho aa s Z H _ I h) λov s1 ⟨x,H1,I1,r1,q1⟩=>?_));refine a_ (Sd (thn (hi aa s1 Z H1 _ I1 q1) λiv s2 ⟨y,H2,I2,r2,q2⟩=>?_));refine a_ (WK (a_ (Sd (thn (hs aa s2 Z H2 x y v ov iv u _ I2 r1 r2 r q2) λ_ s3 ⟨H3,I3,q3⟩=>?_))));exact wpAny_release ⟨Z,H3,I3,q3⟩
noncomputable def tAsg(te:TE)(g:TG):TS:=λD Z H=>te Z H λx H1=>g x Z H1 D.nx
theorem CC{te:TE}{g:TG}(he:PE X e te)(hg:PG X tg g)(hs:WL [tg] e pos.line X.env=pure false:=by rfl)(hw:WM [tg] e X.env=pure none:=by rfl)(h1:(SZ [tg] X.env).map (·.2)=[Vj tg X.env]:=by rfl):PS X (.Assign [tg] e pos) (tAsg te g):=by
 intro aa s Z H D I h;refine wpAny_Assign_stores (thn (he aa s Z H _ I h) λv s1 ⟨x,H1,I1,r1,q1⟩=>?_) hs hw;rw[h1];exact thn (hg aa s1 Z H1 x v _ I1 r1 q1) λ_ s2 q=>q
theorem xj{x:Str}{te:TE}(hN:X.N.Nodup)(hi:X.N[i]?=some x)(hx:Loc X.env.scope x)(he:PE X e te)(hs:SK e (some (.Name x aE)) pos.line X.env=pure false:=by rfl)(hf:X.fn x=true\/X.env.scope.names.lookup x=some .local):
  PS X (.Assign [.Name x aE] e pos) (tAsg te (gName i)):=by
 intro aa s Z H D I h;refine wpAny_Assign_Name (thn (he aa s Z H _ I h) λv s1 ⟨y,H1,I1,r1,q1⟩=>?_) hs;exact AC I1 hN hi hx r1 (λs2 I2=>⟨_,H1,I2,q1⟩) hf
end
structure It where
 go:Nat->Hp->Prop
 yld:Nat->Hp->V->Hp->Prop
 stop:Nat->Hp->Prop
def FpOk(X:Cx)(aa:List (i_×Obj))(H:Hp)(b:i_):Prop:=
 H b=none/\b≠X.env.locals/\b∉X.fs/\(b∈X.ex\/X.s₀.heap.objs.size<=b)/\(∀x c,X.env.cells.lookup x=some c->c≠b)/\∀p∈X.pn++aa,p.1≠b
theorem Inv.fpOk{X:Cx}{Z:St}{H H':Hp}{s:c_}(I:Inv X aa Z H s)(hb:s.heap.objs.size<=b)(hn:H' b=none):FpOk X aa H' b:=by
 refine⟨hn,Vk (K_ I.lt hb),I.nofs hb,.inr (y_ I.sz hb),λx c e z=>?_,λp hp z=>?_⟩
 ·obtain⟨v,q⟩:=I.cell x c e;exact absurd (K_ q.lt (by rw[z];exact hb)) (SW _)
 ·exact absurd (K_ (E_ (I.pin p hp).1) (by rw[z];exact hb)) (SW _)
structure Turn(P:x_)(w:I_)(K:PySem.W.Frag)(tg:RW)(J:It)(fp:List i_)(it:i_)(tn:Nat->RV->Prop):Prop where
 mem:it∈fp
 obj:∀i h,tn i h->∀b∈fp,∃o,h.get? b=some o/\∀v,o.data≠.cell v
 keep:∀i h h',tn i h->(∀b∈fp,∀o,h.get? b=some o->h'.get? b=some o)->tn i h'
 item:∀(X:Cx),X.prog=P->X.w=w->X.K=K->X.calm=true->∀(i:Nat) (aa:List (i_×Obj)) (s:c_) (Z:St) (H:Hp) (E:b_->c_->Prop),Inv X aa Z H s->(∀b∈fp,FpOk X aa H b)->tn i s.heap->J.go i H →
  r_ (t_ P w) X.A (UN (.ref it)) (λr s1=>∃u,r=some u ∧
   r_ (t_ P w) X.A (U6 tg (.ref it) u) (λ_ s2=>∃x H',Inv X aa Z H' s2/\RelV x u/\J.yld i H x H'/\tn (i+1) s2.heap/\∀b∈fp,H' b=none) E s1) E s
 done:∀(X:Cx),X.prog=P->X.w=w->X.K=K->X.calm=true->∀(i:Nat) (aa:List (i_×Obj)) (s:c_) (Z:St) (H:Hp) (E:b_->c_->Prop),Inv X aa Z H s->(∀b∈fp,FpOk X aa H b)->tn i s.heap->J.stop i H →
  r_ (t_ P w) X.A (UN (.ref it)) (λr s1=>r=none/\Inv X aa Z H s1) E s
 self:∀(A:SH) (i:Nat) (s:c_) (Q:b_->c_->Prop) (E:b_->c_->Prop),tn i s.heap->Q (.ref it) s->r_ (t_ P w) A (WR (.ref it)) Q E s
abbrev TI:=St->Hp->(It->Hp->Prop)->Prop
def PIE(X:Cx)(aa:List (i_×Obj))(Z:St)(tg:RW)(R:It->Hp->Prop)(iT:b_)(s2:c_):Prop:=
 ∃(it:i_) (fp:List i_) (tn:Nat->RV->Prop) (J:It) (H':Hp),iT=.ref it/\Inv X aa Z H' s2/\Turn X.prog X.w X.K tg J fp it tn/\tn 0 s2.heap/\(∀b∈fp,FpOk X aa H' b)/\R J H'
def PI(X:Cx)(tg iter:RW)(wi:TI):Prop:=
 ∀(aa:List (i_×Obj)) (s:c_) (Z:St) (H:Hp) (R:It->Hp->Prop),Inv X aa Z H s->wi Z H R →
  r_ (t_ X.prog X.w) X.A (eval iter X.env) (λv s1=>r_ (t_ X.prog X.w) X.A (WR v) (PIE X aa Z tg R) X.xe s1) X.xe s
theorem BI{M:Xr}{E:b_->c_->Prop}{s:c_}{it:i_}{o:Obj}{n:String}{vs:Array b_}{Q:Unit->c_->Prop}(ho:s.heap.get? it=some o)(hc:o.cls=.type n)(hd:o.data=.fields vs)(hn:["enumerate", "zip", "dict_itemiterator", "dict_reverseitemiterator", "odict_iterator", "itertools.zip_longest", "itertools.pairwise"].contains n=false)(hQ:Q () s):r_ M A (U6 tg (.ref it) u) Q E s:=by
 unfold U6
 cases tg<;>first
  | exact d_ hQ
  | (cases u<;>first
    | exact d_ hQ
    | (refine a_ (wpAny_load ho ?_)
       rw[hc,hd];show r_ M A (if(["enumerate", "zip", "dict_itemiterator", "dict_reverseitemiterator", "odict_iterator", "itertools.zip_longest", "itertools.pairwise"].contains n&&vs[0]? == some (Uv _))=true then _ else _) Q E s;rw[if_neg (by intro h;rw[hn,We] at h;cases h)]
       exact d_ hQ))
noncomputable def Itl(K:PySem.W.Frag)(a:i_):It:=
 ⟨λi H=>∃xs x,SqL K H a xs/\xs[i]?=some x,λi H x H'=>H'=H/\∀xs,SqL K H a xs->xs[i]?=some x,λi H=>∃xs,SqL K H a xs/\xs.length<=i⟩
noncomputable def Itt(K:PySem.W.Frag)(a:i_):It:=
 ⟨λi H=>∃xs x,SqT K H a xs/\xs[i]?=some x,λi H x H'=>H'=H/\∀xs,SqT K H a xs->xs[i]?=some x,λi H=>∃xs,SqT K H a xs/\xs.length<=i⟩
noncomputable def Itr(lo:Int)(n:Nat):It:=⟨λi _=>i < n,λi H x H'=>H'=H/\x=.int (lo+i),λi _=>n<=i⟩
theorem MR{P:x_}{w:I_}{K:PySem.W.Frag}(a it:i_):Turn P w K tg (Itl K a) [it] it (λi h=>h.IsListIter it a i) where
 mem:=by simp
 obj:=λi h st b hb=>by
  have e:b=it:=by simpa using hb
  subst e;obtain⟨o,e,c,d⟩:=st;exact⟨o,e,λv z=>by rw[d] at z;cases z⟩
 keep:=λi h h' st k=>st.at λo e=>k it (by simp) o e
 item:=by
  intro X hP hw hK hc i aa s Z H E I hf st hg;subst hP hw hK;obtain⟨xs,x,hq,hx⟩:=hg;obtain⟨ac,rv,p,hz⟩:=I.list hq;obtain⟨u,hu,ru⟩:=rv.get hx;obtain⟨f0,f1,f2,f3,f4,f5⟩:=hf it (by simp);refine wpAny_pyNext_list_item st p.isList (x:=u) (by simpa using hu) λh' eB sb=>?_
  have I1:Inv X aa Z H { s with heap:=h' }:=I.turned (t':=s.toks) (λb o hb e=>(sb.2 b hb).trans e) f0 f1 f3 f4 f5;obtain⟨o,e,c,d⟩:=id eB;exact⟨u,rfl,BI (s:={ s with heap:=h' }) e c d (by decide) ⟨x,H,I1,ru,⟨rfl,λys hy=>by rw[I.list_inj hy hq];exact hx⟩,eB,λb hb=>(hf b hb).1⟩⟩
 done:=by
  intro X hP hw hK hc i aa s Z H E I hf st hg;subst hP hw hK;obtain⟨xs,hq,hx⟩:=hg;obtain⟨ac,rv,p,hz⟩:=I.list hq;obtain⟨f0,f1,f2,f3,f4,f5⟩:=hf it (by simp);have hl:=rv.length;exact wpAny_pyNext_list_end (I.ok.hd hc) st p.isList (by simp;omega) λh' eb=>⟨rfl,I.turned (t':=s.toks) (λb o hb e=>eb b o hb e) f0 f1 f3 f4 f5⟩
 self:=λ_ _ _ _ _ st h=>wpAny_pyIter_listiter st h
theorem LF{P:x_}{w:I_}{K:PySem.W.Frag}(a it:i_):Turn P w K tg (Itt K a) [it] it (λi h=>h.IsTupleIter it a i) where
 mem:=by simp
 obj:=λi h st b hb=>by
  have e:b=it:=by simpa using hb
  subst e;obtain⟨o,e,c,d⟩:=st;exact⟨o,e,λv z=>by rw[d] at z;cases z⟩
 keep:=λi h h' st k=>st.at λo e=>k it (by simp) o e
 item:=by
  intro X hP hw hK hc i aa s Z H E I hf st hg;subst hP hw hK;obtain⟨xs,x,hq,hx⟩:=hg;obtain⟨ac,rv,p,hz⟩:=I.tuple hq;obtain⟨u,hu,ru⟩:=rv.get hx;obtain⟨f0,f1,f2,f3,f4,f5⟩:=hf it (by simp);refine wpAny_pyNext_tuple_item st (show s.heap.IsTuple a ac.toArray from p) (x:=u) (by simpa using hu) λh' eB sb=>?_
  have I1:Inv X aa Z H { s with heap:=h' }:=I.turned (t':=s.toks) (λb o hb e=>(sb.2 b hb).trans e) f0 f1 f3 f4 f5;obtain⟨o,e,c,d⟩:=id eB;exact⟨u,rfl,BI (s:={ s with heap:=h' }) e c d (by decide) ⟨x,H,I1,ru,⟨rfl,λys hy=>by rw[I.tuple_inj hy hq];exact hx⟩,eB,λb hb=>(hf b hb).1⟩⟩
 done:=by
  intro X hP hw hK hc i aa s Z H E I hf st hg;subst hP hw hK;obtain⟨xs,hq,hx⟩:=hg;obtain⟨ac,rv,p,hz⟩:=I.tuple hq;obtain⟨f0,f1,f2,f3,f4,f5⟩:=hf it (by simp);have hl:=rv.length;exact wpAny_pyNext_tuple_end (I.ok.hd hc) st (show s.heap.IsTuple a ac.toArray from p) (by simp;omega) λh' eb=>⟨rfl,I.turned (t':=s.toks) (λb o hb e=>eb b o hb e) f0 f1 f3 f4 f5⟩
 self:=λ_ _ _ _ _ st h=>wpAny_pyIter_tupleiter st h
theorem M6{P:x_}{w:I_}{K:PySem.W.Frag}(it:i_)(lo:Int)(n:Nat):Turn P w K tg (Itr lo n) [it] it (λi h=>IsRangeIter h it (lo+(i:Nat)*1) ((n:Int) - (i:Nat)) 1) where
 mem:=by simp
 obj:=λi h st b hb=>by
  have e:b=it:=by simpa using hb
  subst e
  exact⟨_,st,λv z=>by
   have z':fields _=WC v:=z
   cases z'⟩
 keep:=λi h h' st k=>k it (by simp) _ st
 item:=by
  intro X hP hw hK hc i aa s Z H E I hf st hg;subst hP hw hK;obtain⟨f0,f1,f2,f3,f4,f5⟩:=hf it (by simp);have W:=Walks.range (prog:=X.prog) (w:=X.w) (I.ok.hd hc) it lo 1 n;refine W.item i s _ _ hg st λv h' tk hv eB kk=>?_
  obtain⟨t,rfl⟩:=hv;have I1:Inv X aa Z H { s with heap:=h',toks:=tk }:=I.turned (λb o hb e=>kk b o (by simpa using hb) e) f0 f1 f3 f4 f5;refine⟨_,rfl,BI (s:={ s with heap:=h',toks:=tk }) (n:= "range_iterator") eB rfl rfl (by decide) ⟨.int (lo+i),H,I1,⟨t,?_⟩,⟨rfl,rfl⟩,eB,λb hb=>(hf b hb).1⟩⟩;rw[Int.mul_one]
 done:=by
  intro X hP hw hK hc i aa s Z H E I hf st hg;subst hP hw hK;obtain⟨f0,f1,f2,f3,f4,f5⟩:=hf it (by simp);exact wpAny_pyNext_range_end (I.ok.hd hc) st (by have:n<=i:=hg;omega) λh' eb=>⟨rfl,I.turned (t':=s.toks) (λb o hb e=>eb b o hb e) f0 f1 f3 f4 f5⟩
 self:=λ_ _ _ _ _ st h=>wpAny_pyIter_rangeiter st h
section
variable{X:Cx}
theorem Ee{Z:St}{H:Hp}{s:c_}{R:It->Hp->Prop}{E:b_->c_->Prop}{lo hi:Int}{t u v:Tok}(I:Inv X aa Z H s)(h1:-(2 ^ 62)<=lo)(h2:lo < 2 ^ 62)(h3:-(2 ^ 62)<=hi)(h4:hi < 2 ^ 62)(q:R (Itr lo (hi - lo).toNat) H):r_ (t_ X.prog X.w) X.A (WR (.ref s.heap.objs.size)) (PIE X aa Z tg R) E { s with heap:=s.heap.push { cls:=.type "range", data:=.fields #[.int lo t,.int hi u,.int 1 v] },toks:=tk }:=by
 refine wpAny_pyIter_range (IsRange.new ..) (small_one h1 h2 h3 h4) ?_;have I1:Inv X aa Z H { s with heap:=s.heap.push { cls:=.type "range", data:=.fields #[.int lo t,.int hi u,.int 1 v] },toks:=tk }:=I.kept λb o e=>f_ _ e
 refine⟨(s.heap.push { cls:=.type "range", data:=.fields #[.int lo t,.int hi u,.int 1 v] }).objs.size,[(s.heap.push { cls:=.type "range", data:=.fields #[.int lo t,.int hi u,.int 1 v] }).objs.size],_,_,H,rfl,
  I1.kept (t':=tk) λb o e=>f_ _ e,M6 _ lo (hi - lo).toNat,?_,λb hb=>?_,q⟩
 ·have e1:lo+((0:Nat):Int)*1=lo:=by simp
  have e2:(((hi - lo).toNat:Nat):Int) - ((0:Nat):Int)=rangeSize lo hi 1:=by rw[rangeSize_one];split<;>omega
  show IsRangeIter _ _ (lo+((0:Nat):Int)*1) ((((hi - lo).toNat:Nat):Int) - ((0:Nat):Int)) 1;rw[e1,e2];exact z_ _ rfl
 ·have e:b=(s.heap.push { cls:=.type "range", data:=.fields #[.int lo t,.int hi u,.int 1 v] }).objs.size:=by simpa using hb
  subst e;exact I1.fpOk (w_ _) (I1.hok.fresh (w_ _))
noncomputable def iRng1(ta:TA):TI:=λZ H R=>ta Z H λvs H1=>∃j:Int,vs=[.int j]/\-(2 ^ 62)<=j/\j < 2 ^ 62/\R (Itr 0 j.toNat) H1
noncomputable def iRng2(ta:TA):TI:=λZ H R=>ta Z H λvs H1=>∃i j:Int,vs=[.int i,.int j]/\(-(2 ^ 62)<=i/\i < 2 ^ 62/\-(2 ^ 62)<=j/\j < 2 ^ 62)/\R (Itr i (j - i).toNat) H1
theorem JB{a:RW}{ta:TA}{p:Pos}(hg:Gl X "range")(hm:X.mg "range"=none)(ha:PA X [a] ta)(hs:e_ [a] X.env=[(false,eval a X.env)]:=by rfl):PI X tg (.Call (.Name "range" p) [a] [] pos) (iRng1 ta):=by
 intro aa s Z H R I h;refine Yj (uu I hg hm XM (N_ (thn (ha pos aa s Z H _ I h) λus s1 ⟨vs,H1,I1,r1,q1⟩=>?_) hs rfl));obtain⟨j,e,q1,q2,q⟩:=q1;subst e;cases r1 with
 | cons r rr =>
  cases rr;obtain⟨t,rfl⟩:=r;exact call_range_1 (Ee I1 (by omega) (by omega) q1 q2 (by simpa using q))
theorem IL{a b:RW}{ta:TA}{p:Pos}(hg:Gl X "range")(hm:X.mg "range"=none)(ha:PA X [a,b] ta)(hs:e_ [a,b] X.env=[(false,eval a X.env),(false,eval b X.env)]:=by rfl)(cA:e_ [b] X.env=[(false,eval b X.env)]:=by rfl):
  PI X tg (.Call (.Name "range" p) [a,b] [] pos) (iRng2 ta):=by
 intro aa s Z H R I h;refine Yj (uu I hg hm XM (N_ (thn (ha pos aa s Z H _ I h) λus s1 ⟨vs,H1,I1,r1,q1⟩=>?_) (by rw[hs,cA]) (by rw[cA];rfl)));obtain⟨i,j,e,⟨q1,q2,q3,q4⟩,q⟩:=q1;subst e;cases r1 with
 | cons r rr =>
  cases rr with
  | cons r' rr =>
   cases rr;obtain⟨t,rfl⟩:=r;obtain⟨t',rfl⟩:=r';exact call_range_2 (Ee I1 q1 q2 q3 q4 q)
noncomputable def tFor(wi:TI)(g:TG)(tb:TS):TS:=λD Z H=>wi Z H λJ H1=>∃W:Nat->Nat->St->Hp->Prop,(∃m,W 0 m Z H1)/\∀i m Z H,W i m Z H →
 (J.stop i H/\D.nx Z H)\/(J.go i H/\∃N:St->Hp->Prop,(∀ah H',N ah H'->∃m',m' < m/\W (i+1) m' ah H')/\∀x H',J.yld i H x H'->g x Z H' λaS H2=>tb { D with nx:=N,ct:=N,bk:=D.nx } aS H2)
noncomputable def pinsAt(fp:List i_)(h:RV):List (i_×Obj):=fp.filterMap λb=>(h.get? b).map λo=>(b,o)
theorem zE{o:Obj}(hb:b∈fp)(e:h.get? b=some o):(b,o)∈pinsAt fp h:=VD.mpr ⟨b,hb,by rw[e];rfl⟩
theorem HR{p:i_×Obj}(hp:p∈pinsAt fp h):p.1∈fp/\h.get? p.1=some p.2:=by
 obtain⟨b,hb,e⟩:=VD.mp hp;cases q:h.get? b with
 | none=>rw[q] at e;cases e
 | some o =>
  rw[q] at e;have e':(b,o)=p:=RY e;subst e';exact⟨hb,q⟩
theorem Inv.pinned{Z:St}{H:Hp}{s:c_}(I:Inv X aa Z H s)(hf:∀b∈fp,FpOk X aa H b)(ho:∀b∈fp,∃o,s.heap.get? b=some o/\∀v,o.data≠.cell v):Inv X (aa++pinsAt fp s.heap) Z H s:=
 I.pins_of λp hp=>(P_.mp hp).elim (λz=>I.pin p (M_ _ z)) λz=>by
  obtain⟨hb,e⟩:=HR z;obtain⟨f0,f1,f2,_⟩:=hf p.1 hb;obtain⟨o,e',d⟩:=ho p.1 hb;rw[e] at e';cases e';exact⟨e,f0,f1,f2,d⟩
theorem Inv.unpinned{pl:List (i_×Obj)}{Z:St}{H:Hp}{s:c_}(I:Inv X (aa++pl) Z H s):Inv X aa Z H s:=I.pins_of λp hp=>I.pin p (M_ _ (Sk _ hp))
theorem E2{iter:RW}{body:List Sb}{wi:TI}{g:TG}{tb:TS}(hp:Xn (t_ X.prog X.w) X.A X.env X.xe)(hc:X.calm=true)(hi:PI X tg iter wi)(hg:PG X tg g)(hb:PSs X body tb)(hs:∀x,Sq iter X.env x=pure x:=by intros;rfl):PS X (.For tg iter body [] pos) (tFor wi g tb):=by
 intro aa s Z H D I h;refine wpAny_For (thn (hi aa s Z H _ I h) λv s1 h1=>thn h1 λiT s2 h2=>?_) hs;obtain⟨it,fp,tn,J,H2,e,I2,T,eC,f2,W,⟨m0,w0⟩,turn⟩:=h2;subst e
 -- what stays true of the iterator's objects through the cB
 have dy:∀{H':Hp},(∀b∈fp,H' b=none)->∀b∈fp,FpOk X aa H' b:=λhn b hb=>⟨hn b hb,(f2 b hb).2⟩
 refine codeAny_forLoop_any (λn s'=>∃i ah H',Inv X aa ah H' s'/\tn i s'.heap/\(∀b∈fp,H' b=none)/\W i n ah H') ?_ m0 ⟨0,Z,H2,I2,eC,λb hb=>(f2 b hb).1,w0⟩;rintro n s3 ⟨i,gy,H3,I3,fQ,mw,w3⟩
 rcases turn i n gy H3 w3 with⟨stop,qn⟩ | ⟨go,N,hN,step⟩
 ·refine T9 hp (thn (T.done X rfl rfl rfl hc i aa s3 gy H3 X.xe I3 (dy mw) fQ stop) λr s4 ⟨hr,I4⟩=>?_);subst hr;exact U5 ⟨gy,H3,I4,qn⟩
 ·refine T9 hp (thn (T.item X rfl rfl rfl hc i aa s3 gy H3 X.xe I3 (dy mw) fQ go) λr s4 ⟨u,hr,h4⟩=>?_);subst hr;refine T9 hp (thn h4 λ_ s5 ⟨x,H5,I5,r5,y5,fR,iU⟩=>?_);have oQ:=I5.pinned (dy iU) (T.obj _ _ fR);refine T9 hp (thn (hg _ s5 gy H5 x u _ oQ r5 (step x H5 y5)) λ_ s6 ⟨oR,H6,I6,q6⟩=>?_);refine T9 hp (thn (hb _ s6 oR H6 _ I6 q6) λf s7 q7=>?_)
  have Xs:∀{dz:St}{H7:Hp},Inv X (aa++pinsAt fp s5.heap) dz H7 s7->N dz H7->∃m,m < n/\∃i ah H',Inv X aa ah H' s7/\tn i s7.heap/\(∀b∈fp,H' b=none)/\W i m ah H':=λ{dz H7} I7 n7=>by
   obtain⟨m',hm,w7⟩:=hN dz H7 n7;refine⟨m',hm,i+1,dz,H7,I7.unpinned,T.keep _ _ _ fR λb hb o e=>(I7.pin (b,o) (M_ _ (M_ _ (zE hb e)))).1,λb hb=>?_,w7⟩;obtain⟨o,e,d⟩:=T.obj _ _ fR b hb;exact(I7.pin (b,o) (M_ _ (M_ _ (zE hb e)))).2.1
  cases f with
  | next=>obtain⟨dz,H7,I7,n7⟩:=q7;exact Xs I7 n7
  | cont=>obtain⟨dz,H7,I7,n7⟩:=q7;exact Xs I7 n7
  | brk=>obtain⟨dz,H7,I7,q7⟩:=q7;exact⟨dz,H7,I7.unpinned,q7⟩
  | ret v=>obtain⟨x7,dz,H7,I7,r7,q7⟩:=q7;exact⟨x7,dz,H7,I7.unpinned,r7,q7⟩
end
abbrev R2:=V->V->Hp->VK->Prop
def OpR(X:Cx)(f:b_->b_->Sem b_)(r:R2):Prop:=
 ∀(aa:List (i_×Obj)) (s:c_) (Z:St) (H:Hp) (x y:V) (v u:b_) (Q:VK),Inv X aa Z H s->RelV x v->RelV y u->r x y H Q →
  r_ (t_ X.prog X.w) X.A (f v u) (EP X aa Z Q) X.xe s
def UnR(X:Cx)(f:b_->Sem b_)(r:V->Hp->VK->Prop):Prop:=
 ∀(aa:List (i_×Obj)) (s:c_) (Z:St) (H:Hp) (x:V) (v:b_) (Q:VK),Inv X aa Z H s->RelV x v->r x H Q →
  r_ (t_ X.prog X.w) X.A (f v) (EP X aa Z Q) X.xe s
def CallR(X:Cx)(f:b_)(r:List V->Hp->VK->Prop):Prop:=
 ∀(aa:List (i_×Obj)) (s:c_) (Z:St) (H:Hp) (xs:List V) (us:List b_) (Q:VK),Inv X aa Z H s->Vals xs us->r xs H Q →
  r_ (t_ X.prog X.w) X.A (call f us) (EP X aa Z Q) X.xe s
noncomputable def tOp(r:R2)(ta tb:TE):TE:=λZ H Q=>ta Z H λx H1=>tb Z H1 λy H2=>r x y H2 Q
noncomputable def tUn(r:V->Hp->VK->Prop)(ta:TE):TE:=λZ H Q=>ta Z H λx H1=>r x H1 Q
noncomputable def rI(C:Int->Int->Prop)(g:Int->Int->V):R2:=λx y H Q=>∃i j,x=.int i/\y=.int j/\C i j/\Q (g i j) H
noncomputable def rI0(g:Int->Int->V):R2:=λx y H Q=>∃i j,x=.int i/\y=.int j/\Q (g i j) H
def rU(g:Int->V):V->Hp->VK->Prop:=λx H Q=>∃i,x=.int i/\Q (g i) H
section
variable{X:Cx}{a b c:RW}{ta tb tc:TE}
theorem binT(ha:PE X a ta)(hb:PE X b tb){s:c_}{Z:St}{H:Hp}{R:V->V->Hp->Prop}(I:Inv X aa Z H s)(h:ta Z H λx H1=>tb Z H1 λy H2=>R x y H2){Q:b_->c_->Prop}{f:b_->b_->Sem b_}(hf:∀v u s2 x y H2,Inv X aa Z H2 s2->RelV x v->RelV y u->R x y H2->r_ (t_ X.prog X.w) X.A (f v u) Q X.xe s2):
  r_ (t_ X.prog X.w) X.A (eval a X.env) (λv aA=>r_ (t_ X.prog X.w) X.A (eval b X.env) (λu eD=>r_ (t_ X.prog X.w) X.A (f v u) Q X.xe eD) X.xe aA) X.xe s:=by
 refine thn (ha aa s Z H _ I h) λv s1 ⟨x,H1,I1,r1,q1⟩=>?_
 refine thn (hb aa s1 Z H1 _ I1 q1) λu s2 ⟨y,H2,I2,r2,q2⟩=>?_
 exact hf v u s2 x y H2 I2 r1 r2 q2
theorem Ei{op:Operator}{r:R2}(ho:OpR X (S3 op) r)(ha:PE X a ta)(hb:PE X b tb):PE X (.BinOp a op b pos) (tOp r ta tb):=by
 intro aa s Z H Q I h;exact wpAny_BinOp (binT ha hb I h λv u s2 x y H2 I2 rx ry q=>ho aa s2 Z H2 x y v u Q I2 rx ry q)
theorem Mi{op:UnaryOp}{r:V->Hp->VK->Prop}(ho:UnR X (unaryOp op) r)(ha:PE X a ta):PE X (.UnaryOp op a pos) (tUn r ta):=by
 intro aa s Z H Q I h;exact UnaryOp_ (thn (ha aa s Z H _ I h) λv s1 ⟨x,H1,I1,r1,q1⟩=>ho aa s1 Z H1 x v Q I1 r1 q1)
theorem opI{f:b_->b_->Sem b_}{C:Int->Int->Prop}{g:Int->Int->Int}(rule:∀(i j:Int) (t u:Tok) (s:c_) (Q:b_->c_->Prop) (E:b_->c_->Prop),C i j->Q (.int (g i j) s.toks) { s with toks:=s.toks+1 }->r_ (t_ X.prog X.w) X.A (f (.int i t) (.int j u)) Q E s):
  OpR X f (rI C λi j=>.int (g i j)):=by
 intro aa s Z H x y v u Q I rx ry h;obtain⟨i,j,rfl,rfl,hc,q⟩:=h;obtain⟨t,rfl⟩:=rx;obtain⟨t',rfl⟩:=ry;exact rule i j t t' s _ _ hc ⟨.int (g i j),H,I.tok _,⟨_,rfl⟩,q⟩
theorem opI0{f:b_->b_->Sem b_}{g:Int->Int->Int}(rule:∀(i j:Int) (t u:Tok) (s:c_) (Q:b_->c_->Prop) (E:b_->c_->Prop),Q (.int (g i j) s.toks) { s with toks:=s.toks+1 }->r_ (t_ X.prog X.w) X.A (f (.int i t) (.int j u)) Q E s):
  OpR X f (rI0 λi j=>.int (g i j)):=by
 intro aa s Z H x y v u Q I rx ry h;obtain⟨i,j,rfl,rfl,q⟩:=h;obtain⟨t,rfl⟩:=rx;obtain⟨t',rfl⟩:=ry;exact rule i j t t' s _ _ ⟨.int (g i j),H,I.tok _,⟨_,rfl⟩,q⟩
theorem opB0{f:b_->b_->Sem b_}{g:Int->Int->Bool}(rule:∀(i j:Int) (t u:Tok) (s:c_) (Q:b_->c_->Prop) (E:b_->c_->Prop),Q (.bool (g i j)) s->r_ (t_ X.prog X.w) X.A (f (.int i t) (.int j u)) Q E s):
  OpR X f (rI0 λi j=>.bl (g i j)):=by
 intro aa s Z H x y v u Q I rx ry h;obtain⟨i,j,rfl,rfl,q⟩:=h;obtain⟨t,rfl⟩:=rx;obtain⟨t',rfl⟩:=ry;exact rule i j t t' s _ _ ⟨.bl (g i j),H,I,rfl,q⟩
def CPow(i j:Int):Prop:=0<=j/\j<=1000000/\i.natAbs < 2 ^ 64
def CMul(i j:Int):Prop:=(-(2 ^ 64) < i/\i < 2 ^ 64)\/(-(2 ^ 64) < j/\j < 2 ^ 64)
theorem CMul.ok{i j:Int}(h:CMul i j):IntMulOk i j:=by
 rcases h with⟨h1,h2⟩ | ⟨h1,h2⟩
 ·exact .of_left (intBits_le_64 h1 h2)
 ·exact .of_right (intBits_le_64 h1 h2)
theorem Ox:OpR X (S3 .Add) (rI0 λi j=>.int (i+j)):=opI0 λ_ _ _ _ _ _ _ q=>add_int q
theorem Kl:OpR X (S3 .Sub) (rI0 λi j=>.int (i - j)):=opI0 λ_ _ _ _ _ _ _ q=>sub_int q
theorem Jo:OpR X (S3 .Mult) (rI CMul λi j=>.int (i*j)):=opI λ_ _ _ _ _ _ _ hc q=>mul_int q hc.ok
theorem PB:OpR X (S3 .Mod) (rI (λ_ j=>0 < j) λi j=>.int (i % j)):=opI λi j _ _ _ _ _ hc q=>by
 have h1:(0:Int) < j:=hc;exact mod_int' (by omega) (by rw[Int.fmod_eq_emod_of_nonneg i (by omega)];exact q)
theorem Lx:OpR X (S3 .Pow) (rI CPow λi j=>.int (i ^ j.toNat)):=opI λ_ _ _ _ _ _ _ hc q=>pow_int_small hc.1 hc.2.1 hc.2.2 q
theorem unI{f:b_->Sem b_}{g:Int->Int}(rule:∀(i:Int) (t:Tok) (s:c_) (Q:b_->c_->Prop) (E:b_->c_->Prop),Q (.int (g i) s.toks) { s with toks:=s.toks+1 }->r_ (t_ X.prog X.w) X.A (f (.int i t)) Q E s):
  UnR X f (rU λi=>.int (g i)):=by
 intro aa s Z H x v Q I rx h;obtain⟨i,rfl,q⟩:=h;obtain⟨t,rfl⟩:=rx;exact rule i t s _ _ ⟨.int (g i),H,I.tok _,⟨_,rfl⟩,q⟩
theorem Oi:UnR X (unaryOp .USub) (rU λi=>.int (-i)):=unI λ_ _ _ _ _ q=>neg_int q
end
section
variable{X:Cx}{a b c:RW}{ta tb tc:TE}
theorem Gz{Z:St}{H:Hp}{s:c_}{Q:VK}{k k':Bool}(I:Inv X aa Z H s)(q:Q (.bl k) H)(e:k=k'):EP X aa Z Q (.bool k') s:=by
 subst e;exact⟨.bl k,H,I,rfl,q⟩
theorem EI:OpR X (Se .Lt) (rI0 λi j=>.bl (decide (i < j))):=opB0 λ_ _ _ _ _ _ _ q=>lt_int q
theorem yf:OpR X (Se .LtE) (rI0 λi j=>.bl (decide (i<=j))):=opB0 λ_ _ _ _ _ _ _ q=>le_int q
theorem M5:OpR X (Se .Gt) (rI0 λi j=>.bl (decide (j < i))):=opB0 λ_ _ _ _ _ _ _ q=>gt_int q
theorem IT:OpR X (Se .GtE) (rI0 λi j=>.bl (decide (j<=i))):=opB0 λ_ _ _ _ _ _ _ q=>ge_int q
theorem O8:OpR X (Se .Is) (λx y H Q=>y=.non/\Q (.bl (decide (x=.non))) H):=by
 intro aa s Z H x y v u Q I rx ry h;obtain⟨rfl,q⟩:=h;cases ry;refine is_none_gen (Gz I q ?_)
 cases x<;>first
  | (cases rx;rfl)
  | (obtain⟨t,rfl⟩:=rx;rfl)
theorem Oa:OpR X (Se .IsNot) (λx y H Q=>y=.non/\Q (.bl (!decide (x=.non))) H):=by
 intro aa s Z H x y v u Q I rx ry h;obtain⟨rfl,q⟩:=h;cases ry;refine isnot_none_gen (Gz I q ?_)
 cases x<;>first
  | (cases rx;rfl)
  | (obtain⟨t,rfl⟩:=rx;rfl)
theorem OpR.or{f:b_->b_->Sem b_}{r r':R2}(h:OpR X f r)(h':OpR X f r'):OpR X f (λx y H Q=>r x y H Q\/r' x y H Q):=by
 intro aa s Z H x y v u Q I rx ry q
 rcases q with q | q
 ·exact h aa s Z H x y v u Q I rx ry q
 ·exact h' aa s Z H x y v u Q I rx ry q
theorem nomark(b:RW)(h:op≠.In:=by decide)(h2:op≠.NotIn:=by decide):SS op b=false:=by
 have e1:(op == CmpOp.In)=false:=by cases op<;>first | rfl | exact absurd rfl h
 have e2:(op == CmpOp.NotIn)=false:=by cases op<;>first | rfl | exact absurd rfl h2
 cases b<;>simp[SS,e1,e2]
theorem Im{r:R2}(ho:OpR X (Se op) r)(ha:PE X a ta)(hb:PE X b tb)(hm:SS op b=false):PE X (.Compare a [op] [b] pos) (tOp r ta tb):=by
 intro aa s Z H Q I h;exact wpAny_Compare1 (binT ha hb I h λv u s2 x y H2 I2 rx ry q=>ho aa s2 Z H2 x y v u Q I2 rx ry q) hm
noncomputable def tTest(t:TE):TT:=λZ H Q=>t Z H λx H'=>∃k,x=.bl k/\Q k H'
theorem JN{r:R2}(ho:OpR X (Se op) r)(ha:PE X a ta)(hb:PE X b tb)(hm:SS op b=false):PT X (.Compare a [op] [b] pos) (tTest (tOp r ta tb)):=by
 intro aa s Z H Q I h
 refine wpAny_isTrue_Compare1 (thn (ha aa s Z H _ I h) λv s1 ⟨x,H1,I1,r1,q1⟩=>thn (hb aa s1 Z H1 _ I1 q1) λu s2 ⟨y,H2,I2,r2,q2⟩ =>
  thn (ho aa s2 Z H2 x y v u _ I2 r1 r2 q2) λc s3 ⟨z,H3,I3,r3,k,e,q3⟩=>?_) hm
 subst e;cases r3;exact So ⟨H3,I3,q3⟩
noncomputable def tChain(r r':R2)(ta tb tc:TE):TE:=λZ H Q=>ta Z H λx H1=>tb Z H1 λy H2=>r x y H2 λz H3=>∃k,z=.bl k ∧
 (if k=true then tc Z H3 λw' H4=>r' y w' H4 Q else Q (.bl false) H3)
theorem MH{r r':R2}(ho:OpR X (Se op) r)(cn:OpR X (Se cq) r')(ha:PE X a ta)(hb:PE X b tb)(hc:PE X c tc)(hm:VM [op,cq] [b,c]=false:=by with_unfolding_all rfl):PE X (.Compare a [op,cq] [b,c] pos) (tChain r r' ta tb tc):=by
 intro aa s Z H Q I h
 refine Compare_chain (thn (ha aa s Z H _ I h) λv s1 ⟨x,H1,I1,r1,q1⟩=>chain_link (thn (hb aa s1 Z H1 _ I1 q1) λu s2 ⟨y,H2,I2,r2,q2⟩ =>
  thn (ho aa s2 Z H2 x y v u _ I2 r1 r2 q2) λd s3 ⟨z,H3,I3,r3,k,e,q3⟩=>?_)) hm
 subst e;cases r3;refine So ?_;cases k with
 | false=>exact ite_ff ⟨.bl false,H3,I3,rfl,q3⟩
 | true=>exact ite_tt (chain_last (thn (hc aa s3 Z H3 _ I3 q3) λw' s4 ⟨z',H4,I4,r4,q4⟩=>cn aa s4 Z H4 y z' u w' Q I4 r2 r4 q4))
theorem Pf{r r':R2}(ho:OpR X (Se op) r)(cn:OpR X (Se cq) r')(ha:PE X a ta)(hb:PE X b tb)(hc:PE X c tc)(hm:VM [op,cq] [b,c]=false:=by with_unfolding_all rfl):PT X (.Compare a [op,cq] [b,c] pos) (tTest (tChain r r' ta tb tc)):=by
 intro aa s Z H Q I h
 refine isTrue_chain (thn (ha aa s Z H _ I h) λv s1 ⟨x,H1,I1,r1,q1⟩=>test_link (thn (hb aa s1 Z H1 _ I1 q1) λu s2 ⟨y,H2,I2,r2,q2⟩ =>
  thn (ho aa s2 Z H2 x y v u _ I2 r1 r2 q2) λd s3 ⟨z,H3,I3,r3,k,e,q3⟩=>?_)) hm
 subst e;cases r3;refine So ?_;cases k with
 | false =>
  obtain⟨k',e',q'⟩:=q3;cases e';exact ite_ff ⟨H3,I3,q'⟩
 | true =>
  refine ite_tt (test_last (thn (hc aa s3 Z H3 _ I3 q3) λw' s4 ⟨z',H4,I4,r4,q4⟩=>thn (cn aa s4 Z H4 y z' u w' _ I4 r2 r4 q4) λd' s5 ⟨z2,H5,I5,r5,k2,e2,q5⟩=>?_));subst e2;cases r5;exact So ⟨H5,I5,q5⟩
theorem line63:(A_:Nat) < 2 ^ 63:=by rw[Sy];decide
theorem NX:OpR X (S3 .Add) (λx y H Q=>∃i j,x=.str i/\y=.str j/\i.length+j.length<=A_/\Q (.str (i++j)) H):=by
 intro aa s Z H x y v u Q I rx ry h;obtain⟨i,j,rfl,rfl,hz,q⟩:=h;obtain⟨t,rfl⟩:=rx;obtain⟨t',rfl⟩:=ry;exact add_str (λt' tk=>⟨.str (i++j),H,I.tok _,⟨_,rfl⟩,q⟩) hz
theorem vals1{x:V}(r:Vals [x] us):∃u,us=[u]/\RelV x u:=by
 cases r with
 | cons r1 r2=>cases r2;exact⟨_,rfl,r1⟩
theorem vals2{x y:V}(r:Vals [x,y] us):∃u w',us=[u,w']/\RelV x u/\RelV y w':=by
 cases r with
 | cons r1 r2 =>
  cases r2 with
  | cons r3 r4=>cases r4;exact⟨_,_,rfl,r1,r3⟩
theorem P5(hc:X.calm=true):CallR X (.builtin "max") (λxs H Q=>∃i j,xs=[.int i,.int j]/\Q (.int (if j > i then j else i)) H):=by
 intro aa s Z H xs us Q I r h;obtain⟨i,j,rfl,q⟩:=h;obtain⟨u,w',rfl,⟨t,rfl⟩,⟨t',rfl⟩⟩:=vals2 r;refine max_two_ints (I.ok.hd hc) λh' tk k=>⟨_,H,I.kept k,?_,q⟩
 by_cases hj:j > i
 ·rw[if_pos hj,if_pos hj];exact⟨_,rfl⟩
 ·rw[if_neg hj,if_neg hj];exact⟨_,rfl⟩
theorem IJ(hc:X.calm=true):CallR X (.builtin "min") (λxs H Q=>∃i j,xs=[.int i,.int j]/\Q (.int (if j < i then j else i)) H):=by
 intro aa s Z H xs us Q I r h;obtain⟨i,j,rfl,q⟩:=h;obtain⟨u,w',rfl,⟨t,rfl⟩,⟨t',rfl⟩⟩:=vals2 r;refine min_two_ints (I.ok.hd hc) λh' tk k=>⟨_,H,I.kept k,?_,q⟩
 by_cases hj:j < i
 ·rw[if_pos hj,if_pos hj];exact⟨_,rfl⟩
 ·rw[if_neg hj,if_neg hj];exact⟨_,rfl⟩
end
structure Room(k:Nat)(A:SH):Prop where
 hd:A.handled=none
 dp:A.depth+3*k+5 < recursionLimit
 un:A.units+16*k+200 < S8
 gd:A.guards=some []
theorem Room.mono(r:Room k A)(h:j<=k):Room j A:=⟨r.hd,by have:=r.dp;omega,by have:=r.un;omega,r.gd⟩
theorem Room.deeper(r:Room (k+1) A)(env:Env):Room k (A.deeper env):=
 ⟨r.hd,by have:=r.dp;show A.depth+1+3*k+5 < _;omega,by have:=r.un;show A.units+3+16*k+200 < _;omega,r.gd⟩
theorem Room.depth(r:Room k A):A.depth < recursionLimit:=by have:=r.dp;omega
noncomputable def tNil:TA:=λ_ H Q=>Q [] H
noncomputable def tCons(ta:TE)(tr:TA):TA:=λZ H Q=>ta Z H λx H1=>tr Z H1 λxs H2=>Q (x::xs) H2
section
variable{X:Cx}{es:List RW}{te:TE}{t:TA}
theorem wa:PA X [] tNil:=λ_ _ _ _ H Q I h=>Uw ⟨[],H,I,.nil,h⟩
theorem uY(ha:PE X e te)(hr:PA X es t)(hs:e_ (e::es) X.env=(false,eval e X.env)::e_ es X.env:=by rfl):PA X (e::es) (tCons te t):=by
 intro pos aa s Z H Q I h;rw[hs];show r_ _ _ (spliced ((false,eval e X.env)::R4 pos (e_ es X.env))) _ _ s;refine Ug (thn (ha aa s Z H _ I h) λu s1 ⟨x,H1,I1,r1,q1⟩=>?_);exact thn (hr pos aa s1 Z H1 _ I1 q1) λus s2 ⟨xs,H2,I2,r2,q2⟩=>⟨x::xs,H2,I2,.cons r1 r2,q2⟩
noncomputable def tTup(t:TA):TE:=λZ H Q=>t Z H λxs H1=>xs.length<=A_/\∀p,H1 p=none->Q (.ref p) (upd H1 p (.tup xs))
noncomputable def tLst(t:TA):TE:=λZ H Q=>t Z H λxs H1=>xs.length<=A_/\∀p,H1 p=none->Q (.ref p) (upd H1 p (.lst xs))
theorem Qa{x1}(h:PA X es t):PE X (.Tuple es x1 pos) (tTup t):=by
 intro aa s Z H Q I hq;refine wpAny_Tuple_spliced (thn (h pos aa s Z H _ I hq) λus s1 ⟨xs,H1,I1,r,z,q⟩=>⟨by rw[←r.length];exact z,?_⟩);have hf:H1 s1.heap.objs.size=none:=I1.hok.fresh (w_ _);refine⟨.ref s1.heap.objs.size,upd H1 s1.heap.objs.size (.tup xs),I1.laid (t':=s1.toks) (λb u e=>f_ _ e) (w_ _) ?_,rfl,q _ hf⟩;exact⟨z,us,r,⟨_,z_ _ rfl,rfl,_,rfl⟩⟩
theorem Lm(h:PA X es t):PE X (.List es pos) (tLst t):=by
 intro aa s Z H Q I hq;refine wpAny_List_spliced (thn (h pos aa s Z H _ I hq) λus s1 ⟨xs,H1,I1,r,z,q⟩=>⟨by rw[←r.length];exact z,?_⟩);have hf:H1 s1.heap.objs.size=none:=I1.hok.fresh (w_ _);refine⟨.ref s1.heap.objs.size,upd H1 s1.heap.objs.size (.lst xs),I1.laid (t':=s1.toks) (λb u e=>f_ _ e) (w_ _) ?_,rfl,q _ hf⟩;exact⟨z,us,0,r,z_ _ rfl⟩
end
abbrev Sp:=List V->Hp->VK->XK->Prop
abbrev CXT:=List Env->Hp->c_->XK->b_->c_->Prop
structure Env0(P:x_)(w:I_)(K:PySem.W.Frag)(mg:Str->Option b_)(base:RV)(A:SH)(outer:List Env)(s:c_)(H:Hp):Prop where
 frames:A.frames=some outer
 mod:Mod K mg base
 bs:∀b o,base.get? b=some o->s.heap.get? b=some o/\H b=none
 bsz:base.objs.size<=s.heap.objs.size
 funs:s.heap.FunFrames base outer
 frf:∀b∈frs outer,H b=none
 hok:HOk P w H s.heap
 bare:Ut s.gens
def CE(outer:List Env)(P:x_)(w:I_)(H:Hp)(s:c_)(Q:VK)(u:b_)(s':c_):Prop:=
 ∃v H',s'.os=s.os/\Ut s'.gens/\Un (frs outer) [] H H' s.heap s'.heap/\HOk P w H' s'.heap/\RelV v u/\Q v H'
def CR(CX:CXT)(outer:List Env)(P:x_)(w:I_)(H:Hp)(s:c_)(Q:VK)(E:XK)(r:Result)(s':c_):Prop:=
 match r with
 | .ok (.ret u)=>CE outer P w H s Q u s'
 | .ok _=>False
 | .error e=>CX outer H s E e s'
structure FnOk(P:x_)(w:I_)(K:PySem.W.Frag)(mg:Str->Option b_)(base:RV)(CX:CXT)(k:Nat)(f:i_)(fd:S')(ps:List Str)(sp:Sp):Prop where
 len:∀vs H Q E,sp vs H Q E->vs.length=ps.length
 run:∀(A:SH) (outer:List Env) (s:c_) (H:Hp) (args:Args) (us:List b_) (vs:List V) (Q:VK) (E:XK),Room k A->Env0 P w K mg base A outer s H->W5 s fd args (ps.zip us)->Vals vs us->sp vs H Q E →
  T_ (t_ P w) A (.call (.ref f) args) (CR CX outer P w H s Q E) s
section
variable{X:Cx}{Z:St}{H:Hp}{s:c_}
theorem Inv.env0(I:Inv X aa Z H s):Env0 X.prog X.w X.K X.mg X.base X.A X.stack s H:=
 ⟨I.ok.frames,I.ok.mod,I.bs,y_ I.ok.bsz I.sz,I.stack,I.stkFree,I.hok,I.bare⟩
theorem Inv.after{Q:VK}(I:Inv X aa Z H s)(h:CE X.stack X.prog X.w H s Q u s'):EP X aa Z Q u s':=by
 obtain⟨v,H',os,bare,un,hok,r,q⟩:=h;obtain⟨hh,g,d,t,kx⟩:=s';obtain rfl:kx=s.os:=os;exact⟨v,H',I.call (h':=hh) (g':=g) (d':=d) (t':=t) (ch:=[]) un hok bare (λb z=>absurd z (by simp)),r,q⟩
end
noncomputable def tCall(sp:Sp)(eE:List V)(E:XK)(t:TA):TE:=λZ H Q=>t Z H λvs H1=>sp (vs++eE) H1 Q E
def Binds(K:PySem.W.Frag)(fd:S')(ps:List Str)(ds:List b_):Prop:=
 ∀(s:c_) (us:List b_),K.In s.heap->(us++ds).length=ps.length->W5 s fd ⟨us,[]⟩ (ps.zip (us++ds))
theorem Binds.all{K:PySem.W.Frag}(h:∀us:List b_,us.length=ps.length->Sc fd ⟨us,[]⟩=pure (ps.zip us)):Binds K fd ps []:=λs us _ hl=>by
 rw[SO] at hl ⊢;exact .of_eq (h us hl)
def Passes(CX:CXT)(X:Cx)(E:XK):Prop:=∀(aa:List (i_×Obj)) (Z:St) (H:Hp) (s:c_) (e:b_) (s':c_),Inv X aa Z H s->CX X.stack H s E e s'->X.xe e s'
section
variable{X:Cx}{CX:CXT}{sp:Sp}{eE:List V}{ds:List b_}{E:XK}{x m:Str}{p:Pos}{o:RW}{es:List RW}{ta:TE}{t:TA}
theorem NN{Z:St}{H:Hp}{s:c_}{Q:VK}{vs:List V}(F:FnOk X.prog X.w X.K X.mg X.base CX k f fd ps sp)(hr:Room k X.A)(hb:Binds X.K fd ps ds)(hd:Vals eE ds)(hx:Passes CX X E)(I:Inv X aa Z H s)(r:Vals vs us)(h:sp (vs++eE) H Q E):r_ (t_ X.prog X.w) X.A (call (.ref f) us) (EP X aa Z Q) X.xe s:=by
 have r2:Vals (vs++eE) (us++ds):=r.append hd;have hl:(us++ds).length=ps.length:=by rw[←r2.length];exact F.len _ _ _ _ h
 refine XN (Tl (F.run X.A X.stack s H ⟨us,[]⟩ (us++ds) (vs++eE) Q E hr I.env0 (hb s us I.kIn hl) r2 h) λr s' hq=>?_);cases r with
 | error e=>exact hx aa Z H s e s' I hq
 | ok fl =>
  cases fl with
  | ret u=>exact I.after hq
  | next=>exact X' hq
  | brk=>exact X' hq
  | cont=>exact X' hq
theorem z8(F:FnOk X.prog X.w X.K X.mg X.base CX k f fd ps sp)(hr:Room k X.A)(hg:Gl X x)(hm:X.mg x=some (.ref f))(hk:PySem.W.keepIn X.K (.ref f)=true)(hb:Binds X.K fd ps ds)(hd:Vals eE ds)(hx:Passes CX X E)(ha:PA X (e::es) t)(bC:(x == ("__debug__":Str))=false:=by decide)(he:e_ (e::es) X.env=(false,eval e X.env)::e_ es X.env:=by rfl)(aC:(R4 pos (e_ es X.env)).any (·.1)=false:=by rfl):
  PE X (.Call (.Name x p) (e::es) [] pos) (tCall sp eE E t):=by
 intro aa s Z H Q I h;refine Sv (wL I hg hm ?_ bC);refine PySem.W.callWith_K (h₀:=X.base) I.ok.mod.kin hk (thn (ha pos aa s Z H _ I h) λus s1 ⟨vs,H1,I1,r,q⟩=>⟨I1.kIn,?_⟩) he aC;exact NN F hr hb hd hx I1 r q
end
structure FnScope(N P:List Str)(sc:Vh):Prop where
 kind:sc.kind=.function
 co:sc.isCoroutine=false
 gen:sc.isGenerator=false
 nd:N.Nodup
 pre:N.take P.length=P
 par:∀x∈P,sc.names.lookup x=some .local\/sc.names.lookup x=some .cell
 nofree:∀y∈sc.names,y.2≠.free
theorem Hs{kindOf:Str->Option Su}{x:Str}:∀{binds:List (Str×b_)}{m:Str->Option b_},(∀v,(x,v)∉binds)->XO kindOf binds m x=m x
 | [],_,_=>rfl
 | (n,v)::r,m,h=>by
  unfold XO;rw[Hs λw hw=>h w (j_ _ hw)];split
  ·have:x≠n:=by rintro rfl;exact h v m_
   simp[this]
  ·rfl
theorem G6{kindOf:Str->Option Su}{x:Str}:∀{binds:List (Str×b_)}{m:Str->Option b_},(∀v,(x,v)∉binds)->XQ kindOf binds m x=m x
 | [],_,_=>rfl
 | (n,v)::r,m,h=>by
  unfold XQ;rw[G6 λw hw=>h w (j_ _ hw)];split
  ·rfl
  ·have:x≠n:=by rintro rfl;exact h v m_
   simp[this]
theorem EF{kindOf:Str->Option Su}{x:Str}{v:b_}:∀{P:List Str}{vs:List b_}{i:Nat}{m:Str->Option b_},P.Nodup->P[i]?=some x->vs[i]?=some v->kindOf x=some .local →
  XO kindOf (P.zip vs) m x=some v
 | [],_,_,_,_,h,_,_=>by simp at h
 | _::_,[],_,_,_,_,h,_=>by simp at h
 | p::P,w::vs,0,m,nd,h1,h2,hk=>by
  simp at h1 h2;subst h1;subst h2;show XO kindOf ((p,w)::P.zip vs) m p=_;unfold XO;rw[Hs λv hv=>(SL.mp nd).1 (XR hv).1,if_pos hk];simp
 | p::P,w::vs,i+1,m,nd,h1,h2,hk=>by
  show XO kindOf ((p,w)::P.zip vs) m x=_;unfold XO;exact EF (i:=i) (SL.mp nd).2 (by simpa using h1) (by simpa using h2) hk
theorem He{kindOf:Str->Option Su}{x:Str}{v:b_}:∀{P:List Str}{vs:List b_}{i:Nat}{m:Str->Option b_},P.Nodup->P[i]?=some x->vs[i]?=some v->kindOf x≠some .local →
  XQ kindOf (P.zip vs) m x=some v
 | [],_,_,_,_,h,_,_=>by simp at h
 | _::_,[],_,_,_,_,h,_=>by simp at h
 | p::P,w::vs,0,m,nd,h1,h2,hk=>by
  simp at h1 h2;subst h1;subst h2;show XQ kindOf ((p,w)::P.zip vs) m p=_;unfold XQ;rw[G6 λv hv=>(SL.mp nd).1 (XR hv).1,if_neg hk];simp
 | p::P,w::vs,i+1,m,nd,h1,h2,hk=>by
  show XQ kindOf ((p,w)::P.zip vs) m x=_;unfold XQ;exact He (i:=i) (SL.mp nd).2 (by simpa using h1) (by simpa using h2) hk
noncomputable def start(N:List Str)(vs:List V):St:=vs.map some++F_ (N.length - vs.length) none
noncomputable def cxOf(CX:CXT)(P:x_)(w:I_)(K:PySem.W.Frag)(mg:Str->Option b_)(base:RV)(N:List Str)(qual:Str)(scope:Vh)(f:i_)(cd:b_)(A:SH)(outer:List Env)(s:c_)(H:Hp)(E:XK):Cx where
 prog:=P
 w:=w
 K:=K
 mg:=mg
 base:=base
 A:=A.deeper (U7 qual scope s.heap.objs.size f cd)
 N:=N
 s₀:=s
 H₀:=H
 env:=U7 qual scope s.heap.objs.size f cd
 outer:=outer
 stack:=U7 qual scope s.heap.objs.size f cd::outer
 ex:=[]
 calm:=true
 fn:=λ_=>true
 pn:=[]
 xe:=λe s'=>r_ (t_ P w) (A.deeper (U7 qual scope s.heap.objs.size f cd)) (leaving (U7 qual scope s.heap.objs.size f cd) e) (λ_ fS=>CX outer H s E e fS) (λe' fS=>CX outer H s E e' fS) s'
theorem Fj{sc:Vh}{x:Str}(h:sc.names.lookup x=some .cell):∃c,(cellsFrom n sc.names []).lookup x=some c:=by
 have q:=PySem.W.cellsFrom_some sc.names n [] (.inl h);exact TY.mp q
theorem Ka{CX:CXT}{P:x_}{w:I_}{K:PySem.W.Frag}{outer:List Env}{s s1:c_}{H:Hp}{E:XK}{vs:List V}(S:FnScope N ps scope)(hd:A.handled=none)(e0:Env0 P w K mg base A outer s H)(hl:vs.length=ps.length)(r:Vals vs us)(x:InCallC s s.heap.objs.size (XO (U7 qual scope s.heap.objs.size f cd).kindOf (ps.zip us) λ_=>none) (cellsFrom (s.heap.objs.size+1) scope.names []) (XQ (U7 qual scope s.heap.objs.size f cd).kindOf (ps.zip us) λ_=>none) s1):
  Inv (cxOf CX P w K mg base N qual scope f cd A outer s H E) [] (start N vs) H s1:=by
 have aC:ps.length<=N.length:=by have:=congrArg length S.pre;rw[Um] at this;omega
 obtain⟨h1,tk,rfl,hk⟩:=x.done;have gz:∀b:i_,b∉(cxOf CX P w K mg base N qual scope f cd A outer s H E).ex:=λb z=>absurd (show b∈([]:List i_) from z) (by simp)
 refine⟨⟨e0.mod,S.kind,rfl,rfl,w_ _,λy z c h1 h2=>?_,λy hy=>?_,λy c _ h=>?_,λ_=>hd,SH.frames_deeper e0.frames,.inr ⟨rfl,rfl⟩,λb z=>absurd z (gz b),e0.bs,e0.bsz,λb _ _=>gz b,λb z=>absurd z (gz b),e0.funs,e0.frf⟩,
  rfl,e0.bare,Un.kept hk,⟨_,x.toInCall.ns,λi y v h1 h2 h3=>?_⟩,λy c h=>⟨_,x.cell y c h⟩,e0.hok.fresh (w_ _),λy c h=>?_,λp hp=>absurd (show p∈([]:List (i_×Obj)) from hp) (by simp),e0.hok.kept hk,?_⟩
 ·exact name_of_addr x.apart (PySem.mem_of_lookup h1) (PySem.mem_of_lookup h2)
 ·have hy:scope.names.lookup y=some .cell\/scope.names.lookup y=some .free:=hy
  rcases hy with hy | hy
  ·exact Fj hy
  ·exact absurd rfl (S.nofree _ (PySem.mem_of_lookup hy))
 ·exact UW (x.above y c (PySem.mem_of_lookup h))
 ·have hi:i < vs.length:=by
   unfold start at h2;by_cases hi:i < vs.length
   ·exact hi
   ·rw[SJ (by simpa using hi)] at h2;rw[S_] at h2;split at h2<;>cases h2
  have ha:vs[i]?=some v:=by
   unfold start at h2;rw[SM (by simpa using hi),C_] at h2;cases e:vs[i]? with
   | none=>rw[e] at h2;cases h2
   | some a=>rw[e] at h2;cases h2;rfl
  obtain⟨u,hu,rv⟩:=r.get ha
  have hp:ps[i]?=some y:=by
   rw[←S.pre,VE (by omega)];exact h1
  have mz:ps.Nodup:=by rw[←S.pre];exact S.nd.sublist (List.take_sublist _ _)
  refine⟨u,rv,?_⟩
  rcases S.par y (RZ hp) with k | k
  ·exact .inl ⟨k,EF mz hp hu k⟩
  ·obtain⟨c,e⟩:=Fj (n:=s.heap.objs.size+1) k;refine .inr ⟨.inl k,c,e,?_⟩;have q:=x.cell y c e;rw[He mz hp hu (by show scope.names.lookup y≠_;rw[k];decide)] at q;exact q
 ·exact e0.hok.fresh (UW (x.above y c (PySem.mem_of_lookup h)))
 ·unfold start;show _=N.length;rw[v_,q_,RX];omega
theorem Hk{CX:CXT}{P:x_}{w:I_}{K:PySem.W.Frag}{name:Str}{body:List Sb}{dV kV bU am:b_}{sp:Sp}(lk:K.lookup f=some ⟨oc,od,.func (Uh name qual params body scope dV kV bU pm an am ct),dL⟩)(cp:codeIn K am qual=true)(S:FnScope N ps scope)(len:∀vs H Q E,sp vs H Q E->vs.length=ps.length)(eX:∀(A:SH) (outer:List Env) (s:c_) (H:Hp) (vs:List V) (Q:VK) (E:XK),Room k (A.deeper (U7 qual scope s.heap.objs.size f am))->sp vs H Q E →
   ∃t,PSs (cxOf CX P w K mg base N qual scope f am A outer s H E) body t/\t { nx:=λ_ H'=>Q .non H',rt:=Q } (start N vs) H):
  FnOk P w K mg base CX (k+1) f (Uh name qual params body scope dV kV bU pm an am ct) ps sp:=by
 refine⟨len,λA outer s H args us vs Q E hr e0 hb r eF=>?_⟩;have hl:=len _ _ _ _ eF;have KX:K.In s.heap:=e0.mod.kin.keeps λb o e=>(e0.bs b o e).1
 have lim:s.heap.NoLimit:=e0.mod.nolimit.keeps λb o e=>(e0.bs b o e).1
 have kz:∀y∈ps.zip us,scope.names.lookup y.1=some .local\/(scope.names.lookup y.1=some .cell/\((cellsFrom (s.heap.objs.size+1) scope.names []).lookup y.1).isSome=true):=λ⟨n,v⟩ hy=>by
  rcases S.par n (XR hy).1 with q | q
  ·exact .inl q
  ·exact .inr ⟨q,PySem.W.cellsFrom_some _ _ _ (.inl q)⟩
 refine codeAny_call_function hr.depth (KX _ _ lk) rfl S.co S.gen rfl (PySem.W.codeRec_of KX cp) (hb _ _ _ _ ?_);refine wpAny_newFunctionEnv_cells S.kind kz λenv he s1 x=>?_
 subst he;refine⟨lim.keeps x.toInCall.keep,codeAny_func ?_⟩;obtain⟨t,ht,hq⟩:=eX A outer s H vs Q E (hr.deeper _) eF;have I:Inv (cxOf CX P w K mg base N qual scope f am A outer s H E) [] (start N vs) H s1:=Ka S hr.hd e0 hl r x;refine Sa (ht [] s1 (start N vs) H _ I hq) (λfl s' hs=>?_) λe s' hs=>hs
 have fin:∀{ah:St}{H':Hp}{v:V}{u:b_},Inv (cxOf CX P w K mg base N qual scope f am A outer s H E) [] ah H' s'->RelV v u->Q v H'->CE outer P w H s Q u s':=
  λ{ah H' v u} J rv q=>⟨v,H',J.os,J.bare,J.base,J.hok,rv,q⟩
 cases fl with
 | ret u =>
  obtain⟨v,ah,H',J,rv,q⟩:=hs;exact fin J rv q
 | next =>
  obtain⟨ah,H',J,q⟩:=hs;exact fin (v:=V.non) (u:=b_.none) J rfl q
 | brk =>
  obtain⟨_,_,_,q⟩:=hs;exact X' q
 | cont =>
  obtain⟨_,_,_,q⟩:=hs;exact X' q
section
variable{X:Cx}{x:Str}{p:Pos}{es:List RW}{t:TA}{id T:String}{r:List V->Hp->VK->Prop}
noncomputable def tCB(r:List V->Hp->VK->Prop)(t:TA):TE:=λZ H Q=>t Z H λvs H1=>r vs H1 Q
theorem w6(hc:CallR X (.builtin id) r)(hg:Gl X x)(hm:X.mg x=none)(hv:SR x=some (.builtin id))(ha:PA X (e::es) t)(hn:x ≠ "__name__":=by decide)(bC:(x == ("__debug__":Str))=false:=by decide)(he:e_ (e::es) X.env=(false,eval e X.env)::e_ es X.env:=by rfl)(aC:(R4 pos (e_ es X.env)).any (·.1)=false:=by rfl):PE X (.Call (.Name x p) (e::es) [] pos) (tCB r t):=by
 intro aa s Z H Q I h;refine Sv (uu I hg hm hv ?_ hn bC);exact Tb (thn (ha pos aa s Z H _ I h) λus s1 ⟨vs,H1,I1,r1,q1⟩=>hc aa s1 Z H1 vs us Q I1 r1 q1) he aC
theorem FV(hc:CallR X (.type T) r)(hg:Gl X x)(hm:X.mg x=none)(hv:SR x=some (.type T))(ha:PA X (e::es) t)(hn:x ≠ "__name__":=by decide)(bC:(x == ("__debug__":Str))=false:=by decide)(he:e_ (e::es) X.env=(false,eval e X.env)::e_ es X.env:=by rfl)(aC:(R4 pos (e_ es X.env)).any (·.1)=false:=by rfl):PE X (.Call (.Name x p) (e::es) [] pos) (tCB r t):=by
 intro aa s Z H Q I h;refine Sv (uu I hg hm hv ?_ hn bC);exact N_ (thn (ha pos aa s Z H _ I h) λus s1 ⟨vs,H1,I1,r1,q1⟩=>hc aa s1 Z H1 vs us Q I1 r1 q1) he aC
end
end L2
variable{xs zs:List L2.V}{o:L2.HO}{X:L2.Cx}{Z:L2.St}{H' H2 I I' G I0 J:L2.Hp}{ta:L2.TA}{v0:L2.V}
namespace HT
open PySem PyProof.Rows
section
variable{prog:x_}{w:I_}{E:b_->c_->Prop}{s:c_}
theorem KM{t:i_}{ws:List b_}{Q:b_->c_->Prop}(ht:XF s.heap t vs.toArray)(hb:XF s.heap b ws.toArray)(hv:vs≠[])(h1:ws=[]->Q (.ref t) s)(h2:ws≠[]->Q (.ref s.heap.objs.size) { s with heap:=s.heap.push { cls:=.type "tuple", data:=.seq (vs++ws).toArray } })(dM:vs.length+ws.length<=A_):r_ (t_ prog w) A (S3 .Add (.ref t) (.ref b)) Q E s:=by
 obtain⟨⟨cls,dd,data,sl⟩,ho,hc,n,hd⟩:=id ht;obtain⟨⟨mB,iV,data2,iW⟩,eY,dY,n2,dA⟩:=id hb;simp only at hc hd dY dA;subst hc hd dY dA;have e:vs.toArray++ws.toArray=(vs++ws).toArray:=by simp
 by_cases hw:ws=[]
 ·exact W6 ⟨_,ho,rfl⟩ ⟨_,eY,rfl⟩ VN WN Wg V8 (VO _ _)
   (tuple_addW1 t b vs.toArray ws.toArray n n2 dd iV sl iW (by simpa using hv) (by simp[hw])) ⟨ho,eY,h1 hw⟩
 ·refine W6 ⟨_,ho,rfl⟩ ⟨_,eY,rfl⟩ VN WN Wg V8 (VO _ _)
   (tuple_addW2 t b vs.toArray ws.toArray n n2 dd iV sl iW (by simpa using hv) (by simpa using hw) (by rw[p_,p_];exact dM)) ⟨ho,eY,?_⟩
  rw[e];exact h2 hw
noncomputable def sIx(n d:Nat):Option Int->Nat
 | none=>d
 | some v=>if v < 0 then(v+(n:Int)).toNat else min v.toNat n
theorem zC(n d:Nat):sIx n d none=d:=rfl
theorem Ic(n d:Nat)(hd:d<=n)(o:Option Int):sIx n d o<=n:=by
 cases o with
 | none=>exact hd
 | some v =>
  show(if v < 0 then(v+(n:Int)).toNat else min v.toNat n)<=n;by_cases hv:v < 0
  ·rw[if_pos hv];omega
  ·rw[if_neg hv];exact Nat.min_le_right _ _
theorem CL(v:Int)(n d:Nat):(if v < 0 then max (v+(n:Int)) 0 else min v (n:Int))=((sIx n d (some v):Nat):Int):=by
 show(if v < 0 then max (v+(n:Int)) 0 else min v (n:Int))=(((if v < 0 then(v+(n:Int)).toNat else min v.toNat n):Nat):Int);by_cases hv:v < 0
 ·simp only[if_pos hv];omega
 ·simp only[if_neg hv];omega
theorem Hy(lo hi:Option Int)(n:Nat):Xt lo hi 1 (n:Int)=(((sIx n 0 lo:Nat):Int),((sIx n n hi:Nat):Int)):=by
 have h1:¬((1:Int) < 0):=by omega
 unfold Xt;simp only[h1,if_false];refine VP ?_ ?_
 ·cases lo with
  | none=>rfl
  | some v=>exact CL v n 0
 ·cases hi with
  | none=>rfl
  | some v=>exact CL v n n
theorem OX(i j:Nat):Wh (i:Int) (j:Int) 1=j - i:=by
 unfold Wh;have h1:(1:Int) > 0:=by omega
 simp only[h1,if_true,Int.ediv_one];split<;>omega
theorem Go{v:b_}{o:Option Int}{Q:Option Int->c_->Prop}(p:WT v o)(h:Q o s):r_ (t_ prog w) A (S1.Slice.slicePartIndex v) Q E s:=by
 cases p with
 | none=>exact slicePart_none h
 | int i t=>exact slicePart_int h
theorem M9{sl:i_}{lo:Option Int}{Q:Int×Int×Nat->c_->Prop}(hs:s.heap.IsSliceOf sl vl vu .none)(pl:WT vl lo)(pu:WT vu hi)(h:Q (((sIx n 0 lo:Nat):Int),1,sIx n n hi - sIx n 0 lo) s):r_ (t_ prog w) A (sliceApplied (.ref sl) (pure (n:Int))) Q E s:=by
 obtain⟨os,gB,mC,fT⟩:=id hs;unfold sliceApplied S1.Slice.sliceFields;refine a_ (a_ (Sj gB fT (x:=vl) rfl (a_ (Sj gB fT (x:=vu) rfl (a_ (Sj gB fT (x:=.none) rfl (d_ ?_)))))));refine a_ (slicePart_none ?_);show r_ _ _ (if((1:Int) == 0)=true then _ else _) _ _ s;rw[if_neg (by decide)];refine a_ (Go pl (a_ (Go pu (a_ (d_ ?_)))));show r_ _ _ (match Xt lo hi 1 (n:Int) with | (lo,hi)=>pure (lo,(1:Int),Wh lo hi 1)) _ _ s;rw[Hy lo hi n];show r_ _ _ (pure (((sIx n 0 lo:Nat):Int),(1:Int),Wh ((sIx n 0 lo:Nat):Int) ((sIx n n hi:Nat):Int) 1)) _ _ s;rw[OX];exact d_ h
theorem Kc(xs:Array b_)(i k:Nat):((Sx k).filterMap λ(m:Nat)=>xs[((i:Int)+(m:Int)*1).toNat]?).toArray=((xs.toList.drop i).take k).toArray:=by
 have e:(λ(m:Nat)=>xs[((i:Int)+(m:Int)*1).toNat]?)=λm=>xs[i+m]?:=by
  funext m
  have:((i:Int)+(m:Int)*1).toNat=i+m:=by omega
  rw[this]
 rw[e];have:=pick_run xs i k;rw[List.filterMap_map] at this;have e2:((λx=>xs[x]?)∘λx=>i+x)=λm=>xs[i+m]?:=rfl
 rw[e2] at this;rw[this]
theorem Oc{t sl:i_}{lo:Option Int}{Q:b_->c_->Prop}(ht:XF s.heap t af)(hs:s.heap.IsSliceOf sl vl vu .none)(pl:WT vl lo)(pu:WT vu hi)(hw:¬(sIx af.size 0 lo=0/\sIx af.size af.size hi=af.size))(h:Q (.ref s.heap.objs.size) { s with heap:=s.heap.push { cls:=.type "tuple", data:=.seq ((af.toList.drop (sIx af.size 0 lo)).take (sIx af.size af.size hi - sIx af.size 0 lo)).toArray } })(dM:af.size<=A_):r_ (t_ prog w) A (XC (.ref t) (.ref sl)) Q E s:=by
 have dZ:sizeOk (.seq ((af.toList.drop (sIx af.size 0 lo)).take (sIx af.size af.size hi - sIx af.size 0 lo)).toArray):=by
  show((af.toList.drop (sIx af.size 0 lo)).take (sIx af.size af.size hi - sIx af.size 0 lo)).toArray.size<=A_;rw[p_,Um,TH,Ss];omega
 have hj:sIx af.size af.size hi<=af.size:=Ic _ _ (w_ _) hi;obtain⟨os,gB,mC,fT⟩:=id hs;have oU:s.TypeIs (.ref sl) "slice":=⟨os,gB,mC⟩;unfold XC
 try with_reducible refine Sd ?_
 first | refine a_ (d_ ?_) | skip
 refine a_ (wpAny_sequenceKey ht.typeIs (by decide) ?_)
 refine a_ (Si (name:=Vl "__getitem__") ht.typeIs S9
  (Sl S9 ht.typeIs entry_tuple_getitem ?_ (args_tuple_getitem _ _)))
 show r_ _ _ (tupleItemsOf (.ref t) >>= _) _ _ s;refine a_ (tupleItemsOf_ ht ?_);refine a_ (W7 oU ?_);rw[if_pos (by decide)];refine a_ (M9 hs pl pu ?_)
 have oV:¬((((sIx af.size 0 lo:Nat):Int) == 0&&(1:Int) == 1&&(sIx af.size af.size hi - sIx af.size 0 lo) == af.size)=true):=by
  intro q;rw[J_,J_] at q;have q1:((sIx af.size 0 lo:Nat):Int)=0:=eq_of_beq q.1.1;have q2:sIx af.size af.size hi - sIx af.size 0 lo=af.size:=eq_of_beq q.2;exact hw ⟨by omega,by omega⟩
 show r_ _ _ (if(((sIx af.size 0 lo:Nat):Int) == 0&&(1:Int) == 1&&(sIx af.size af.size hi - sIx af.size 0 lo) == af.size)=true then _ else _) _ _ s;rw[if_neg oV,Kc]
 first
  | exact a_ (m:=WU _) (R6 (d_ ⟨_,rfl,d_ h⟩) dZ)
  | exact a_ (m:=WU _) (R6 (a_ (d_ (d_ ⟨_,rfl,d_ h⟩))) dZ)
  | exact a_ (a_ (m:=WU _) (R6 (d_ (d_ ⟨_,rfl,d_ h⟩)) dZ))
  | exact a_ (a_ (m:=WU _) (R6 (d_ ⟨_,rfl,d_ h⟩) dZ))
end
end HT
namespace L2
open PySem PySem.Spec PyProof.Rows
abbrev TO:=St->Hp->(Option Int->Hp->Prop)->Prop
def PO(X:Cx)(e:Option RW)(t:TO):Prop:=
 ∀(aa:List (i_×Obj)) (s:c_) (Z:St) (H:Hp) (Q:Option Int->Hp->Prop),Inv X aa Z H s->t Z H Q →
  r_ (t_ X.prog X.w) X.A (evalPart e X.env) (λu s'=>∃o H',Inv X aa Z H' s'/\WT u o/\Q o H') X.xe s
noncomputable def tNoPart:TO:=λ_ H Q=>Q none H
noncomputable def tPart(t:TE):TO:=λZ H Q=>t Z H λx H1=>∃i,x=.int i/\Q (some i) H1
section
variable{te:TE}{lo hi:Option RW}{tl th:TO}
theorem Jr:PO X none tNoPart:=by
 intro aa s Z H Q I h;rw[evalPart_none];exact d_ ⟨none,H,I,.none,h⟩
theorem MK(h:PE X e te):PO X (some e) (tPart te):=by
 intro aa s Z H Q I hw;rw[evalPart_some];refine thn (h aa s Z H _ I hw) λu s1 ⟨x,H1,I1,r1,q1⟩=>?_
 obtain⟨i,rfl,q⟩:=q1;obtain⟨t,rfl⟩:=r1;exact⟨some i,H1,I1,.int i t,q⟩
def SlR(X:Cx)(r:V->Option Int->Option Int->Hp->VK->Prop):Prop:=
 ∀(aa:List (i_×Obj)) (s:c_) (Z:St) (H:Hp) (x:V) (v vl vu:b_) (lo hi:Option Int) (sl:i_) (Q:VK),Inv X aa Z H s->RelV x v->s.heap.IsSliceOf sl vl vu .none->WT vl lo->WT vu hi->r x lo hi H Q →
  ∃T id,typeLookup (.type T) "__getitem__"=pure (some (.builtin id))/\s.TypeIs v T/\r_ (t_ X.prog X.w) X.A (XC v (.ref sl)) (EP X aa Z Q) X.xe s
theorem SlR.or{r r':V->Option Int->Option Int->Hp->VK->Prop}(h:SlR X r)(h':SlR X r'):SlR X (λx lo hi H Q=>r x lo hi H Q\/r' x lo hi H Q):=by
 intro aa s Z H x v vl vu lo hi sl Q I rx hs pl pu q
 rcases q with q | q
 ·exact h aa s Z H x v vl vu lo hi sl Q I rx hs pl pu q
 ·exact h' aa s Z H x v vl vu lo hi sl Q I rx hs pl pu q
noncomputable def tSl(r:V->Option Int->Option Int->Hp->VK->Prop)(te:TE)(tl th:TO):TE:=λZ H Q=>te Z H λx H1=>tl Z H1 λl H2=>th Z H2 λu H3=>r x l u H3 Q
theorem Jg{r:V->Option Int->Option Int->Hp->VK->Prop}(hr:SlR X r)(he:PE X e te)(hl:PO X lo tl)(hu:PO X hi th):PE X (.Subscript e (.Slice lo hi none p2) pos) (tSl r te tl th):=by
 intro aa s Z H Q I h;refine Subscript_ (thn (he aa s Z H _ I h) λv s1 ⟨x,H1,I1,r1,q1⟩=>?_);refine wpAny_Slice (thn (hl aa s1 Z H1 _ I1 q1) λvl s2 ⟨l,H2,I2,pl,q2⟩=>thn (hu aa s2 Z H2 _ I2 q2) λvu s3 ⟨u,H3,I3,pu,q3⟩=>?_);rw[evalPart_none];refine d_ ?_;have I4:Inv X aa Z H3 { s3 with heap:=s3.heap.push { cls:=.type "slice", data:=.fields #[vl,vu,.none] } }:=I3.kept (t':=s3.toks) λb ob q=>f_ _ q
 obtain⟨T,id,hT,ht,hg⟩:=hr aa { s3 with heap:=s3.heap.push { cls:=.type "slice", data:=.fields #[vl,vu,.none] } } Z H3 x v vl vu l u s3.heap.objs.size Q I4 r1 (RV.IsSliceOf.new ..) pl pu q3;show r_ (t_ X.prog X.w) X.A (subscriptTail e (.Slice lo hi none p2) v (.ref s3.heap.objs.size)) (EP X aa Z Q) X.xe { s3 with heap:=s3.heap.push { cls:=.type "slice", data:=.fields #[vl,vu,.none] } };exact tail_any (ops:=[.ref s3.heap.objs.size,v]) ht hT hg (by with_unfolding_all rfl)
noncomputable def cutV(xs:List V)(lo hi:Option Int):List V:=(xs.drop (HT.sIx xs.length 0 lo)).take (HT.sIx xs.length xs.length hi - HT.sIx xs.length 0 lo)
theorem Gq(xs:List V)(lo hi:Option Int):(cutV xs lo hi).length<=xs.length:=by
 unfold cutV;rw[Um,TH];omega
def rSlT(K:PySem.W.Frag):V->Option Int->Option Int->Hp->VK->Prop:=λx lo hi H Q=>∃a xs,x=.ref a/\SqT K H a xs ∧
 ¬(HT.sIx xs.length 0 lo=0/\HT.sIx xs.length xs.length hi=xs.length)/\∀p,H p=none->Q (.ref p) (upd H p (.tup (cutV xs lo hi)))
theorem Jb:SlR X (rSlT X.K):=by
 intro aa s Z H x v vl vu lo hi sl Q I rx hs pl pu h;obtain⟨a,xs,rfl,hx,hw,q⟩:=h;cases rx;obtain⟨ac,r,ht,hz⟩:=I.tuple hx;have aR:ac.toArray.size=xs.length:=by rw[p_];exact r.length.symm
 refine⟨"tuple", _,S9.lookup,ht.typeIs,?_⟩;refine HT.Oc ht hs pl pu (by rw[aR];exact hw) ?_ (by rw[aR];exact hz);rw[aR];refine⟨.ref s.heap.objs.size,_,I.laid (t':=s.toks) (o:=.tup (cutV xs lo hi)) (λb ob q=>f_ _ q) (w_ _) ?_,rfl,q _ (I.hok.fresh (w_ _))⟩;exact⟨y_ (Gq xs lo hi) hz,_,(r.drop (HT.sIx xs.length 0 lo)).take (HT.sIx xs.length xs.length hi - HT.sIx xs.length 0 lo),XF.new _ _⟩
noncomputable def rCatT(K:PySem.W.Frag):R2:=λx y H Q=>∃a b xs ys,x=.ref a/\y=.ref b/\SqT K H a xs/\SqT K H b ys/\xs≠[]/\xs.length+ys.length<=A_ ∧
 (ys=[]->Q (.ref a) H)/\(ys≠[]->∀p,H p=none->Q (.ref p) (upd H p (.tup (xs++ys))))
theorem Vals.nil_iff(r:Vals xs us):us=[]↔xs=[]:=by
 cases r with
 | nil=>simp
 | cons _ _=>simp
theorem Na:OpR X (S3 .Add) (rCatT X.K):=by
 intro aa s Z H x y v u Q I rx ry h;obtain⟨a,b,xs,ys,rfl,rfl,ha,hb,hx,hz,q1,q2⟩:=h;cases rx;cases ry;obtain⟨ac,r1,p1,_⟩:=I.tuple ha;obtain⟨ck,r2,p2,_⟩:=I.tuple hb;refine HT.KM p1 p2 (λz=>hx (r1.nil_iff.mp z)) (λz=>⟨.ref a,H,I,rfl,q1 (r2.nil_iff.mp z)⟩) (λz=>?_) (by rw[←r1.length,←r2.length];exact hz);refine⟨.ref s.heap.objs.size,_,I.laid (t':=s.toks) (o:=.tup (xs++ys)) (λb ob q=>f_ _ q) (w_ _) ?_,rfl,q2 (λw=>z (r2.nil_iff.mpr w)) _ (I.hok.fresh (w_ _))⟩;exact⟨by rw[v_];exact hz,_,r1.append r2,XF.new _ _⟩
end
noncomputable def ixN(n:Nat)(i:Int):Option Nat:=if 0<=i then(if i < n then some i.toNat else none) else if -(n:Int)<=i then some (i+n).toNat else none
noncomputable def atI{α:Type}(xs:List α)(i:Int):Option α:=(ixN xs.length i).bind λj=>xs[j]?
theorem E7{i:Int}(h:ixN n i=some j):seqIndex? i n=some j/\j < n/\-(n:Int)<=i/\i < n:=by
 unfold ixN at h;by_cases h0:0<=i
 ·rw[if_pos h0] at h;by_cases h1:i < n
  ·rw[if_pos h1] at h;have e:i.toNat=j:=RY h;exact⟨by rw[Xu h0 h1,e],by omega,by omega,h1⟩
  ·rw[if_neg h1] at h;cases h
 ·rw[if_neg h0] at h;by_cases h1:-(n:Int)<=i
  ·rw[if_pos h1] at h;have e:(i+n).toNat=j:=RY h;exact⟨by rw[seqIndex_neg (by omega) h1,e],by omega,h1,by omega⟩
  ·rw[if_neg h1] at h;cases h
theorem GI{α:Type}{xs:List α}{i:Int}{v:α}(h:atI xs i=some v):∃j,seqIndex? i xs.length=some j/\xs[j]?=some v/\j < xs.length/\-(xs.length:Int)<=i/\i < xs.length:=by
 unfold atI at h;cases e:ixN xs.length i with
 | none=>rw[e] at h;cases h
 | some j =>
  rw[e] at h;obtain⟨h1,h2,h3,h4⟩:=E7 e;exact⟨j,h1,h,h2,h3,h4⟩
def PlainIx(b:RW):Prop:=∀o i,subscripted b false o i=operate [o,i] (XC o i)
def IxR(X:Cx)(r:R2):Prop:=
 ∀(value cr:RW) (aa:List (i_×Obj)) (s:c_) (Z:St) (H:Hp) (x y:V) (v u:b_) (Q:VK),Inv X aa Z H s->RelV x v->RelV y u->r x y H Q →
  subscripted cr false v u=operate [v,u] (XC v u)->r_ (t_ X.prog X.w) X.A (subscriptTail value cr v u) (EP X aa Z Q) X.xe s
def MtR(X:Cx)(id:String)(r:V->List V->Hp->VK->Prop):Prop:=
 ∀(aa:List (i_×Obj)) (s:c_) (Z:St) (H:Hp) (x:V) (xs:List V) (v:b_) (us:List b_) (Q:VK),Inv X aa Z H s->RelV x v->Vals xs us->r x xs H Q →
  r_ (t_ X.prog X.w) X.A (call (.builtin id) (v::us)) (EP X aa Z Q) X.xe s
section
variable{a b:RW}{ta tb:TE}
theorem IxR.or{r r':R2}(h:IxR X r)(h':IxR X r'):IxR X (λx y H Q=>r x y H Q\/r' x y H Q):=by
 intro value cr aa s Z H x y v u Q I rx ry q hs
 rcases q with q | q
 ·exact h value cr aa s Z H x y v u Q I rx ry q hs
 ·exact h' value cr aa s Z H x y v u Q I rx ry q hs
theorem DG{r:R2}(hr:IxR X r)(ha:PE X a ta)(hb:PE X b tb)(hs:PlainIx b):PE X (.Subscript a b pos) (tOp r ta tb):=by
 intro aa s Z H Q I h;exact Subscript_ (binT ha hb I h λv u s2 x y H2 I2 rx ry q=>hr a b aa s2 Z H2 x y v u Q I2 rx ry q (hs _ _))
noncomputable def rIxL(K:PySem.W.Frag):R2:=λx y H Q=>∃p xs i v,x=.ref p/\y=.int i/\SqL K H p xs/\atI xs i=some v/\Q v H
noncomputable def rIxT(K:PySem.W.Frag):R2:=λx y H Q=>∃p xs i v,x=.ref p/\y=.int i/\SqT K H p xs/\atI xs i=some v/\Q v H
theorem Gw:IxR X (rIxL X.K):=by
 intro value cr aa s Z H x y v u Q I rx ry h hs;obtain⟨p,xs,i,z,rfl,rfl,hq,he,q⟩:=h;cases rx;obtain⟨t,rfl⟩:=ry;obtain⟨ac,r,pl,hz⟩:=I.list hq;obtain⟨j,h1,h2,h3,h4,h5⟩:=GI he;obtain⟨w,ew,gD⟩:=r.get h2;have hl:=r.length;have hn:=line63;have fin:EP X aa Z Q w s:=⟨z,H,I,gD,q⟩;by_cases h0:0<=i
 ·have hj:i.toNat=j:=by
   rw[Xu h0 h5] at h1;exact RY h1
  exact item_listR pl.isList h0 (by omega) (by rw[hj];simpa using ew) fin hs
 ·have hj:(i+(ac.toArray.size:Int)).toNat=j:=by
   rw[seqIndex_neg (by omega) h4] at h1;rw[p_,←hl];exact RY h1
  exact V0 (x:=w) pl.isList.typeIs W8.lookup
   (wpAny_getItem_list_neg (Q:=λr s'=>r=w/\EP X aa Z Q r s') pl.isList (by omega) (by rw[p_]<;>omega) (by omega) (by rw[hj];simpa using ew) ⟨rfl,fin⟩) hs
theorem MX:IxR X (rIxT X.K):=by
 intro value cr aa s Z H x y v u Q I rx ry h hs;obtain⟨p,xs,i,z,rfl,rfl,hq,he,q⟩:=h;cases rx;obtain⟨t,rfl⟩:=ry;obtain⟨ac,r,pl,hz⟩:=I.tuple hq;obtain⟨j,h1,h2,h3,h4,h5⟩:=GI he;obtain⟨w,ew,gD⟩:=r.get h2;have hl:=r.length;have hn:=line63;have fin:EP X aa Z Q w s:=⟨z,H,I,gD,q⟩
 exact V0 (x:=w) pl.typeIs slot_tuple_getitem.lookup
  (getItem_tuple (j:=j) (Q:=λr s'=>r=w/\EP X aa Z Q r s') pl (by omega) (by omega) (by rw[p_,←hl];exact h1) (by simpa using ew) ⟨rfl,fin⟩) hs
theorem Pe(ac:List b_)(n j:Nat)(u:b_):V1 (·.setIfInBounds j u) { cls:=.type "list", data:=.seq ac.toArray n }={ cls:=.type "list", data:=.seq (ac.set j u).toArray n }:=by
 simp[V1]
theorem Inv.lst{H:Hp}{s:c_}{p:i_}(I:Inv X aa Z H s)(h:H p=some (.lst xs)):
  ∃(ac:List b_) (n:Nat),Vals xs ac/\s.heap.get? p=some { cls:=.type "list", data:=.seq ac.toArray n }/\xs.length<=A_:=by
 obtain⟨z,ac,n,r,e⟩:=I.hok p _ h;exact⟨ac,n,r,e,z⟩
theorem Inv.lstUpd{H:Hp}{s:c_}{p:i_}{ys:List V}{n':Nat}{f:Obj->Obj}(I:Inv X aa Z H s)(h:H p=some (.lst xs))(ho:s.heap.get? p=some { cls:=.type "list", data:=.seq ac.toArray n })(hf:f { cls:=.type "list", data:=.seq ac.toArray n }={ cls:=.type "list", data:=.seq its'.toArray n' })(r:Vals ys its')(hz:ys.length<=A_)(t:Nat):
  Inv X aa Z (upd H p (.lst ys)) { s with heap:=s.heap.update p f,toks:=t }:=by
 have e:(s.heap.update p f).get? p=some { cls:=.type "list", data:=.seq its'.toArray n' }:=by
  rw[Sm f ho (by rw[hf]<;>rfl),hf]
 refine I.write (x:=p) (e:=p) (by rw[h];trivial) (.inl rfl) (λb u hb q=>(O_ _ _ (R5 hb)).trans q) ⟨_,e⟩ ?_;exact⟨hz,its',n',r,e⟩
def rSetL:V->V->V->Hp->(Hp->Prop)->Prop:=λo i v H Q=>∃p xs k j,o=.ref p/\i=.int k/\H p=some (.lst xs)/\ixN xs.length k=some j/\Q (upd H p (.lst (xs.set j v)))
theorem Ni:PSet X rSetL:=by
 intro aa s Z H o i v ov iv u Q I ro ri rv h;obtain⟨p,xs,k,j,rfl,rfl,hp,hj,q⟩:=h;cases ro;obtain⟨t,rfl⟩:=ri;obtain⟨ac,n,r,ho,hz⟩:=I.lst hp;obtain⟨h1,h2,h3,h4⟩:=E7 hj;have hl:=r.length;have hn:=line63
 have I':Inv X aa Z (upd H p (.lst (xs.set j v))) { s with heap:=s.heap.update p (V1 (·.setIfInBounds j u)) }:=
  I.lstUpd hp ho (Pe ac n j u) (r.set rv j) (by rw[Tn];exact hz) s.toks
 by_cases h0:0<=k
 ·have hk:k.toNat=j:=by
   rw[Xu h0 h4] at h1;exact RY h1
  exact PySem.W.ki_setAt ho h0 (by omega) (by rw[p_,←hl];exact h4) (by rw[hk];exact⟨_,I',q⟩)
 ·have hk:(k+(ac.toArray.size:Int)).toNat=j:=by
   rw[seqIndex_neg (by omega) h3] at h1;rw[p_,←hl];exact RY h1
  exact PySem.W.ki_setBack ho (by omega) (by rw[p_,←hl];exact h3) (by omega) (by rw[hk];exact⟨_,I',q⟩)
theorem ND(lo hi:Option Int)(n:Nat):(Uo lo hi none n).1=((HT.sIx n 0 lo:Nat):Int)/\(Uo lo hi none n).2.1=((HT.sIx n n hi:Nat):Int)/\(Uo lo hi none n).2.2=1:=by
 refine⟨?_,?_,rfl⟩
 ·cases lo with
  | none=>simp[Uo,HT.sIx]
  | some i =>
   simp only[Uo,HT.sIx,getD_none,show(1:Int) > 0 by decide,if_true];by_cases h:i < 0
   ·simp only[h,if_true]<;>omega
   ·simp only[h,if_false]<;>omega
 ·cases hi with
  | none=>simp[Uo,HT.sIx]
  | some i =>
   simp only[Uo,HT.sIx,getD_none,show(1:Int) > 0 by decide,if_true];by_cases h:i < 0
   ·simp only[h,if_true]<;>omega
   ·simp only[h,if_false]<;>omega
theorem Ou(ac:List b_)(lo hi:Option Int):slicePick ac.toArray lo hi none=((ac.drop (HT.sIx ac.length 0 lo)).take (HT.sIx ac.length ac.length hi - HT.sIx ac.length 0 lo)).toArray:=by
 obtain⟨h1,h2,h3⟩:=ND lo hi ac.toArray.size;unfold slicePick;rw[h1,h2,h3];simp only[sliceRange_one,pick_run,p_]<;>rfl
def rSlL(K:PySem.W.Frag):V->Option Int->Option Int->Hp->VK->Prop:=λx lo hi H Q=>∃a xs,x=.ref a/\SqL K H a xs/\∀p,H p=none->Q (.ref p) (upd H p (.lst (cutV xs lo hi)))
theorem OA:SlR X (rSlL X.K):=by
 intro aa s Z H x v vl vu lo hi sl Q I rx hs pl pu h;obtain⟨a,xs,rfl,hx,q⟩:=h;cases rx;obtain⟨ac,r,ht,hz⟩:=I.list hx;have aR:=r.length;refine⟨"list", _,W8.lookup,ht.isList.typeIs,?_⟩;refine wpAny_getItem_list_slice ht.isList hs pl pu .none (by simp) ?_ (by rw[p_]<;>omega);rw[Ou,←aR];refine⟨.ref s.heap.objs.size,_,I.laid (t':=s.toks) (o:=.lst (cutV xs lo hi)) (λb ob q=>f_ _ q) (w_ _) ?_,rfl,q _ (I.hok.fresh (w_ _))⟩;exact⟨y_ (Gq xs lo hi) hz,_,0,(r.drop (HT.sIx xs.length 0 lo)).take (HT.sIx xs.length xs.length hi - HT.sIx xs.length 0 lo),z_ _ rfl⟩
theorem FL:CallR X (.builtin "len") (λxs H Q=>∃p ys,xs=[.ref p]/\(SqL X.K H p ys\/SqT X.K H p ys)/\Q (.int ys.length) H):=by
 intro aa s Z H xs us Q I r h;obtain⟨p,ys,rfl,hq,q⟩:=h;obtain⟨u,rfl,rx⟩:=vals1 r;cases rx;have hn:=line63
 rcases hq with hq | hq
 ·obtain⟨ac,r',pl,hz⟩:=I.list hq;have aR:=r'.length;exact Calls.call_len_list pl.isList (by simp only[p_]<;>omega) ⟨.int ys.length,H,I.tok _,⟨s.toks+1,by rw[p_,aR]⟩,q⟩
 ·obtain⟨ac,r',pl,hz⟩:=I.tuple hq;have aR:=r'.length;exact len_tuple pl (by simp only[p_]<;>omega) ⟨.int ys.length,H,I.tok _,⟨s.toks+1,by rw[p_,aR]⟩,q⟩
theorem KQ:CallR X (.type "list") (λxs H Q=>∃p ys,xs=[.ref p]/\(SqL X.K H p ys\/SqT X.K H p ys)/\∀l,H l=none->Q (.ref l) (upd H l (.lst ys))):=by
 intro aa s Z H xs us Q I r h;obtain⟨p,ys,rfl,hq,q⟩:=h;obtain⟨u,rfl,rx⟩:=vals1 r;cases rx
 have fin:∀(ac:List b_),Vals ys ac->ys.length<=A_->∀(h':RV) (c':Nat),(∀b o',s.heap.get? b=some o'->h'.get? b=some o') →
   h'.get? s.heap.objs.size=some { cls:=.type "list", dict:=none,data:=.seq ac.toArray c',slots:=#[] }->EP X aa Z Q (.ref s.heap.objs.size) { s with heap:=h' }:=λac r' hz h' c' kp e =>
  ⟨.ref s.heap.objs.size,_,I.laid (t':=s.toks) kp (w_ _) (show ObjOk X.prog X.w _ h' _ (.lst ys) from⟨hz,ac,c',r',e⟩),rfl,q _ (I.hok.fresh (w_ _))⟩
 rcases hq with hq | hq
 ·obtain⟨ac,r',pl,hz⟩:=I.list hq;have aR:=r'.length;obtain⟨o,ho,hc,n,hd⟩:=pl.isList;exact call_list_seq p (.inl rfl) ho hc hd (λh' c' kp e=>fin ac r' hz h' c' kp e) (by simp only[p_]<;>omega)
 ·obtain⟨ac,r',pl,hz⟩:=I.tuple hq;have aR:=r'.length;obtain⟨o,ho,hc,n,hd⟩:=pl;exact call_list_seq p (.inr rfl) ho hc hd (λh' c' kp e=>fin ac r' hz h' c' kp e) (by simp only[p_]<;>omega)
theorem Iv:CallR X (.type "tuple") (λxs H Q=>∃p ys,xs=[.ref p]/\((SqL X.K H p ys/\∀l,H l=none->Q (.ref l) (upd H l (.tup ys)))\/(SqT X.K H p ys/\Q (.ref p) H))):=by
 intro aa s Z H xs us Q I r h;obtain⟨p,ys,rfl,h⟩:=h;obtain⟨u,rfl,rx⟩:=vals1 r;cases rx
 rcases h with⟨hq,q⟩ | ⟨hq,q⟩
 ·obtain⟨ac,r',pl,hz⟩:=I.list hq;have aR:=r'.length;refine call_tuple_list pl.isList (λh' kp=>?_) (by simp only[p_]<;>omega);have I1:Inv X aa Z H { s with heap:=h' }:=I.kept (t':=s.toks) kp
  have I2:Inv X aa Z (upd H h'.objs.size (.tup ys)) { s with heap:=h'.push { cls:=.type "tuple", data:=.seq ac.toArray } }:=
   I1.laid (t':=s.toks) (λb o e=>f_ _ e) (w_ _) (show ObjOk X.prog X.w _ _ _ (.tup ys) from⟨hz,ac,r',XF.new _ _⟩)
  exact⟨.ref h'.objs.size,_,I2,rfl,q _ (I1.hok.fresh (w_ _))⟩
 ·obtain⟨ac,r',pl,hz⟩:=I.tuple hq;exact call_tuple_same pl ⟨.ref p,H,I,rfl,q⟩
def tyV(K:PySem.W.Frag)(T:String)(x:V)(H:Hp):Prop:=match x with
 | .str _=>T = "str"
 | .int _=>T = "int"
 | .ref p=>(T = "list"/\∃xs,SqL K H p xs)\/(T = "tuple"/\∃o,K.lookup p=some o/\o.cls=.type "tuple"/\o.dict=none) ∨
   (T = "dict"/\((∃aY,H p=some (.dK aY))\/∃aY,H p=some (.dT aY)))\/(T = "set"/\∃S n,H p=some (.set S n))
 | _=>False
theorem JU{H:Hp}{s:c_}{T:String}{x:V}{v:b_}(I:Inv X aa Z H s)(r:RelV x v)(ty:tyV X.K T x H):
  s.TypeIs v T/\∀a,v=.ref a->∃ob,s.heap.get? a=some ob/\ob.dict=none:=by
 cases x with
 | str z =>
  obtain⟨t,rfl⟩:=r
  cases(show T = "str" from ty)
  exact⟨typeIs_str s z t,λ_ e=>nomatch e⟩
 | int i =>
  obtain⟨t,rfl⟩:=r
  cases(show T = "int" from ty)
  exact⟨XS s i t,λ_ e=>nomatch e⟩
 | ref p =>
  cases r
  rcases ty with⟨rfl,xs,hq⟩ | ⟨rfl,o,hk,hc,hd⟩ | ⟨rfl,hk⟩ | ⟨rfl,S,n,hk⟩
  ·obtain⟨ac,_,pl,_⟩:=I.list hq;refine⟨pl.isList.typeIs,λa e=>?_⟩;cases e;obtain⟨o,n,e,c,hd,_⟩:=pl;exact⟨o,e,hd⟩
  ·refine⟨⟨o,I.kIn p o hk,hc⟩,λa e=>?_⟩;cases e;exact⟨o,I.kIn _ o hk,hd⟩
  ·have z:∃o,s.heap.get? p=some o/\o.ExactDict:=by
    rcases hk with⟨aY,hk⟩ | ⟨aY,hk⟩
    ·obtain⟨_,_,_,_,o,_,_,e,ex,_⟩:=I.hok p _ hk;exact⟨o,e,ex⟩
    ·obtain⟨_,_,_,_,o,_,_,e,ex,_⟩:=I.hok p _ hk;exact⟨o,e,ex⟩
   obtain⟨o,e,ex⟩:=z;refine⟨⟨o,e,ex.1⟩,λa e2=>?_⟩;cases e2;exact⟨o,e,ex.2.1⟩
  ·obtain⟨o,_,_,_,e,ex,_⟩:=I.hok p _ hk;refine⟨⟨o,e,ex.1⟩,λa e2=>?_⟩;cases e2;exact⟨o,e,ex.2.1⟩
 | _=>exact X' ty
noncomputable def tBM(K:PySem.W.Frag)(T:String)(r:V->List V->Hp->VK->Prop)(to:TE)(t:TA):TE:=λZ H Q=>to Z H λx H1=>tyV K T x H1/\t Z H1 λxs H2=>r x xs H2 Q
variable{o:RW}{es:List RW}{to:TE}{t:TA}{name:Str}{T id:String}{r:V->List V->Hp->VK->Prop}
theorem wN(pa:PlainAttrs T)(slot:Slot T name id)(oW:Xo (.builtin id)=pure (.type "method_descriptor"))(hm:MtR X id r)(ho:PE X o to)(ha:PA X (e::es) t)(bJ:TZ o name X.env (eval o X.env)=eval o X.env:=by rfl)(cb:((R4 aB (e_ (e::es) X.env)).all (λx=>!x.1)&&(Wi aB (UX [] X.env)).all (λx=>x.1.isSome)
   &&decide ((e::es).length+([]:List Ux).length+(if([]:List Ux).isEmpty then 0 else 1) < 30))=true:=by rfl)(bK:(aU.endLine == aB.line)=true:=by rfl)(hs:e_ (e::es) X.env=(false,eval e X.env)::e_ es X.env:=by rfl)(bn:(R4 aB (e_ es X.env)).any (·.1)=false:=by rfl):
  PE X (.Call (.Attribute o name aU) (e::es) [] aB) (tBM X.K T r to t):=by
 intro aa s Z H Q I h;refine wpAny_Call_method_late bJ cb bK rfl (thn (ho aa s Z H _ I h) λv s1 ⟨x,H1,I1,r1,ty,q1⟩=>?_);obtain⟨h1,h2⟩:=JU I1 r1 ty;refine⟨T,id,pa,slot,oW,h1,h2,?_⟩;have hA:=ha aB aa s1 Z H1 _ I1 q1;rw[hs] at hA ⊢;refine Calls.callWith_builtin (by show(false||(R4 aB (e_ es X.env)).any (·.1))=false;rw[bn]<;>rfl) (Wj ?_);exact thn hA λus s2 ⟨vs,H2,I2,r2,q2⟩=>hm aa s2 Z H2 x vs v us Q I2 r1 r2 q2
end
def MtM(X:Cx)(id:String)(r:V->List V->Hp->VK->Prop):Prop:=
 ∀(aa:List (i_×Obj)) (s:c_) (Z:St) (H:Hp) (x:V) (xs:List V) (v:b_) (us:List b_) (Q:VK),Inv X aa Z H s->RelV x v->Vals xs us->r x xs H Q →
  r_ (t_ X.prog X.w) X.A (call (.builtin id) (v::us)) (EP X aa Z Q) X.xe s
theorem Vals.one:∀{x:V}{us:List b_},Vals [x] us->∃u,us=[u]/\RelV x u
 | _,_,.cons r .nil=>⟨_,rfl,r⟩
theorem Vals.two:∀{x y:V}{us:List b_},Vals [x,y] us->∃u v,us=[u,v]/\RelV x u/\RelV y v
 | _,_,_,.cons r (.cons q .nil)=>⟨_,_,rfl,r,q⟩
theorem Vals.eraseIdx:∀{xs:List V}{us:List b_} (i:Nat),Vals xs us->Vals (xs.eraseIdx i) (us.eraseIdx i)
 | _,_,_,.nil=>.nil
 | _,_,0,.cons _ t=>t
 | _,_,i+1,.cons r t=>.cons r (Vals.eraseIdx i t)
theorem Vals.rep{xs:List V}{us:List b_}(h:Vals xs us):∀k:Nat,Vals (F_ k xs).flatten (F_ k us).flatten
 | 0=>.nil
 | k+1=>by
  rw[Uy,Uy,Vb,Vb];exact Vals.append h (Vals.rep h k)
theorem DY{α:Type}:∀(l:List α) (i:Nat),(l.eraseIdx i).length<=l.length
 | [],_=>w_ _
 | _::_,0=>XE _
 | _::r,i+1=>Nat.succ_le_succ (DY r i)
section
variable{H:Hp}{s:c_}{l:i_}{ys:List V}
theorem Inv.lset{f:Array b_->Array b_}(I:Inv X aa Z H s)(hH:H l=some (.lst xs))(e:s.heap.get? l=some { cls:=.type "list", data:=.seq ac.toArray n })(hf:f ac.toArray=its'.toArray)(hv:Vals ys its')(hz:ys.length<=A_):
  Inv X aa Z (upd H l (.lst ys)) { s with heap:=s.heap.update l (V1 f),toks:=t' }:=by
 have q:=PySem.IsL.update e f;rw[hf] at q;refine I.write (x:=l) (e:=l) (by rw[hH];exact trivial) (.inl rfl) (λb' u hb hu=>(O_ s.heap (V1 f) (R5 hb)).trans hu) ⟨_,q⟩ ?_;exact⟨hz,its',_,hv,q⟩
theorem Inv.lnew(I:Inv X aa Z H s)(hv:Vals ys ac)(hz:ys.length<=A_):
  Inv X aa Z (upd H s.heap.objs.size (.lst ys)) { s with heap:=s.heap.push { cls:=.type "list", data:=.seq ac.toArray },toks:=t' }:=
 I.laid (λ_ _ q=>f_ _ q) (w_ _) ⟨hz,ac,0,hv,z_ _ rfl⟩
theorem Inv.fresh(I:Inv X aa Z H s):H s.heap.objs.size=none:=I.hok.fresh (w_ _)
theorem Inv.lstM(I:Inv X aa Z H s)(hH:H l=some (.lst xs)):xs.length<=A_/\∃(ac:List b_) (n:Nat),Vals xs ac/\xs.length=ac.length/\s.heap.get? l=some { cls:=.type "list", data:=.seq ac.toArray n }:=by
 obtain⟨z,ac,n,r,e⟩:=I.hok l _ hH;exact⟨z,ac,n,r,r.length,e⟩
theorem notLongL(h:n<=A_):Wk n=false:=by
 unfold Wk;exact decide_eq_false (by omega)
end
section
def rAppend:V->List V->Hp->VK->Prop:=λx vs H Q=>∃l xs y,x=.ref l/\vs=[y]/\H l=some (.lst xs)/\xs.length < A_/\Q .non (upd H l (.lst (xs++[y])))
theorem DA:MtM X "list.append" rAppend:=by
 intro aa s Z H x vs v us Q I rx rv h;obtain⟨l,xs,y,rfl,rfl,hH,hz,q⟩:=h;cases rx;obtain⟨u,rfl,ru⟩:=rv.one;obtain⟨z,ac,n,r,hl,e⟩:=I.lstM hH;refine UO F.slot_list_append ⟨_,e,rfl⟩ F.entry_list_append (F.args_list_append_2 _ _) (PySem.list_append l ac.toArray n u (by rw[p_];omega)) ⟨e,?_⟩;refine⟨.non,_,I.lset (its':=ac++[u]) hH e (by simp) (r.append (.cons ru .nil)) ?_,rfl,q⟩;rw[v_,UJ];omega
def rPopAt:V->List V->Hp->VK->Prop:=λx vs H Q=>∃l xs i k y,x=.ref l/\vs=[.int i]/\H l=some (.lst xs)/\-(2 ^ 63)<=i/\i < 2 ^ 63/\seqIndex? i xs.length=some k/\xs[k]?=some y/\Q y (upd H l (.lst (xs.eraseIdx k)))
theorem LJ:MtM X "list.pop" rPopAt:=by
 intro aa s Z H x vs v us Q I rx rv h;obtain⟨l,xs,i,k,y,rfl,rfl,hH,h1,h2,hk,hy,q⟩:=h;cases rx;obtain⟨u,rfl,ru⟩:=rv.one;obtain⟨t,rfl⟩:=ru;obtain⟨z,ac,n,r,hl,e⟩:=I.lstM hH;obtain⟨w,hw,gD⟩:=r.get hy
 refine UO F.slot_list_pop ⟨_,e,rfl⟩ F.entry_list_pop (F.args_list_pop_2 _ _)
  (MeetsSeq.list_pop_at l ac.toArray n i t k w (fitsIndex_both h1 h2) (by rw[p_,←hl];exact hk) (by rw[←V'];exact hw) (by rw[p_];omega)) ⟨e,?_⟩
 refine⟨y,_,I.lset (its':=ac.eraseIdx k) hH e ?_ (r.eraseIdx k) ?_,gD,q⟩
 ·show ac.toArray.eraseIdxIfInBounds k=(ac.eraseIdx k).toArray;rw[List.eraseIdxIfInBounds_toArray]
 ·have:=DY xs k;omega
theorem N7{α:Type}(xs:List α)(k:Nat):(F_ k xs).flatten.length=k*xs.length:=by
 induction k with
 | zero=>simp
 | succ k ih=>rw[Uy,Vb,v_,ih,W9,Nat.add_comm]
end
end L2
namespace Att
open PySem PySem.W PySem.Calls PyProof.Rows
theorem MC{P:Params}:∀(ns:List Int) (vs:List b_),WellAll P h vs (ns.map WData.int)->W' vs ns:=by
 intro ns
 induction ns with
 | nil =>
  intro vs w;rw[List.map_nil] at w;cases w;exact .nil
 | cons n ns ih =>
  intro vs w;rw[G_] at w;cases w with
  | cons a b =>
   cases a;exact .cons _ _ (ih _ b)
theorem PV{l:Ya}(hn:l.most=some n){P:Params}(fB:l.row.toRowW.claim.pre args=true)(kA:WellAll P h gE args):
  ∃a vs ns,gE=[b_.ref a]/\args=[WData.list (ns.map WData.int)]/\h.get? a=some { cls:=.type "list", data:=.seq vs.toArray }/\W' vs ns/\ns.length<=n:=by
 have oX:Yb.hasAll [] args [.list .int]=true:=(pre_splitW fB).1;have hc:l.pre.holds [] { args:=args }=true:=(pre_splitW fB).2;obtain⟨d,r,rfl,h1,h2⟩:=hasAllW_cons oX;obtain rfl:=hasAllW_nil h2;obtain⟨xs,rfl,h3⟩:=hasW_list h1;obtain⟨ns,rfl⟩:=items_int h3
 have aR:ns.length<=n:=by
  unfold Ya.pre at hc
  have h4:(WTm.not (.lt (.lit (.int (n:Int))) (.len (.arg 0)))).holds [] { args:=[.list (ns.map .int)] }=true:=by
   have h4:=(holds_andW hc).1;rw[hn] at h4;exact h4
  have h5:=condW_of h4 (w_not (w_lt w_lit (w_len_list (w_arg rfl))));rw[q_] at h5;refine VQ λq=>?_
  have q':(n:Int) < ((ns.length:Nat):Int):=by omega
  first
   | (rw[decide_eq_true q'] at h5;exact absurd h5 (by decide))
   | (simp at h5;omega)
 cases kA with
 | cons w1 w2 =>
  cases w2;cases w1 with
  | list ho gF=>exact⟨_,_,ns,rfl,rfl,ho,MC ns _ gF,aR⟩
theorem LN(l:Ya)(args:List WData):l.row.toRowW.claim.post args (.bool true) args=true:=
 postW_of (r:=l.row.toRowW) (X:=(true == true))
  (show Yb.has [] (.bool true) .bool=true by first | rfl | decide | simp[Yb.has,Yb.arms,Yb.armsAll])
  (show(WTm.eq .res (.lit (.bool true))).value [] { args:=args,res:=some (.bool true),after:=args }=some (.bool (true == true)) from w_eq_bool (w_res rfl) w_lit) rfl
theorem MG{l:Ya}{q:x_}{XP:(Str->Option b_)->RV->Prop}{YP:I_->RV->Prop}{d:DefRec}(hn:l.most=some n)(gG:d.params.defaults=[])(call:∀(w:I_) (s₀ aA:c_) (mg mb:Str->Option b_) (fa:i_) (o:Obj) (pm cd bU:b_) (a:i_) (vs:List b_) (ns:List Int),
   Ground q cF [] XP w s₀ mg mb aA.heap->YP w aA.heap →
   aA.heap.get? fa=some o->o.data=.func (docDef d.name d.params d.body d.scope pm cd bU)->aA.heap.CodeRec cd d.name->mg d.name=some (.ref fa) →
   aA.heap.get? a=some { cls:=.type "list", data:=.seq vs.toArray }->W' vs ns->ns.length<=n->aA.gens=#[] →
   T_ (t_ l.prog w) WD (.call (.ref fa) ⟨[.ref a],[]⟩) (λr s'=>r=.ok (.ret (.bool true))/\OldK aA.heap s'.heap/\s'.os=aA.os/\Ut s'.gens) aA):
  WalkO q cF XP YP l.row.toRowW d [] (λf vs=>PySem.call f vs):=by
 intro w s₀ aA mg mb G Y fa o pm cd bU dV kV ho hd cp hD gI hg args gE as fB rm mD kA mE;obtain rfl:dV=.none:=Dflts.none hD gG;obtain rfl:kV=.none:=Dflts.noKw hD;obtain⟨a,vs,ns,rfl,rfl,gJ,eZ,aR⟩:=PV hn fB kA;refine enter_call (Tl (call w s₀ aA mg mb fa o pm cd bU a vs ns G Y ho (fd_plain hd) cp gI gJ eZ aR hg) λr s' hq=>?_);obtain⟨rfl,h2,h3,h4⟩:=hq;exact⟨.inl ⟨.bool true,.bool true,[],rfl,λ_=>rfl,.bool true,LN l _,λ_=>⟨WO.nil,λ_ hm=>(nomatch hm)⟩⟩,h2,h3,h4⟩
end Att
namespace L2
open PySem PySem.Spec PyProof.Rows
theorem EY:∀{vs:List b_}{ns:List Int},W' vs ns->Vals (ns.map V.int) vs
 | _,_,.nil=>.nil
 | _,_,.cons n t h=>.cons ⟨t,rfl⟩ (EY h)
def Only(H:Hp):Prop:=∀b,H b=none\/∃o xs,H b=some (.frz o (.lst xs))
noncomputable def defArgs(s:Sb):Arguments:=match s with
 | .FunctionDef _ a _ _ _ _ _ _ _ _=>a
 | _=>{ posonlyargs:=[],args:=[],vararg:=none,kwonlyargs:=[],kw_defaults:=[],kwarg:=none,defaults:=[] }
noncomputable def defBody(s:Sb):List Sb:=match s with
 | .FunctionDef _ _ b _ _ _ _ _ _ _=>b
 | _=>[]
noncomputable def defScope(s:Sb):Vh:=match s with
 | .FunctionDef _ _ _ _ _ _ sc _ _ _=>sc
 | _=>{ kind:=.function,names:=[],isGenerator:=false,isCoroutine:=false }
noncomputable abbrev CX0:CXT:=λ_ _ _ _ _ _=>False
noncomputable abbrev E0:XK:=λ_ _ _=>False
theorem pass0:Passes CX0 X E0:=λ_ _ _ _ _ _ _ h=>h.elim
structure Fun(K:PySem.W.Frag)(x qual:Str)(st:Sb)(f:i_)(fd:S'):Prop where
 ex:∃(oc:b_) (od:Option i_) (kV bU pm:b_) (an:Option i_) (am ct:b_) (dL:Array (Option b_)),
  fd=Uh x qual (defArgs st) (defBody st) (defScope st) .none kV bU pm an am ct/\K.lookup f=some ⟨oc,od,.func fd,dL⟩/\codeIn K am qual=true
 kp:PySem.W.keepIn K (.ref f)=true
section
variable{P:x_}{w:I_}{K:PySem.W.Frag}
theorem Fun.ok{x:Str}{st:Sb}{sp:Sp}(F:Fun K x qual st f fd)(S:FnScope N ps (defScope st))(len:∀vs H Q E,sp vs H Q E->vs.length=ps.length)(eX:∀(am:b_) (A:SH) (outer:List Env) (s:c_) (H:Hp) (vs:List V) (Q:VK) (E:XK),Room k (A.deeper (U7 qual (defScope st) s.heap.objs.size f am))->sp vs H Q E →
   ∃t,PSs (cxOf CX0 P w K mg base N qual (defScope st) f am A outer s H E).nox (defBody st) t/\t { nx:=λ_ H'=>Q .non H',rt:=Q } (start N vs) H):FnOk P w K mg base CX0 (k+1) f fd ps sp:=by
 obtain⟨oc,od,kV,bU,pm,an,am,ct,dL,rfl,lk,cp⟩:=F.ex;refine Hk lk cp S len λA outer s H vs Q E hr eF=>?_
 obtain⟨t,h,q⟩:=eX am A outer s H vs Q E hr eF;exact⟨t,h.nox,q⟩
theorem Fun.binds{x:Str}{st:Sb}(F:Fun K x qual st f fd)(h:∀(kV bU pm:b_) (an:Option i_) (am ct:b_) (us:List b_),us.length=ps.length->Sc (Uh x qual (defArgs st) (defBody st) (defScope st) .none kV bU pm an am ct) ⟨us,[]⟩=pure (ps.zip us)):Binds K fd ps []:=by
 obtain⟨oc,od,kV,bU,pm,an,am,ct,dL,rfl,lk,cp⟩:=F.ex;exact .all (h kV bU pm an am ct)
theorem IB{x:Str}{st:Sb}{kV bU am:b_}(l:K.lookup f=some ⟨oc,od,.func (Uh x qual (defArgs st) (defBody st) (defScope st) .none kV bU pm an am ct),dL⟩)(c:codeIn K am qual=true)(k:PySem.W.keepIn K (.ref f)=true):Fun K x qual st f (Uh x qual (defArgs st) (defBody st) (defScope st) .none kV bU pm an am ct):=⟨⟨oc,od,kV,bU,pm,an,am,ct,dL,rfl,l,c⟩,k⟩
end
section
theorem pv(i:Nat){x:Str}(hN:X.N[i]?=some x:=by rfl)(hv:visB X.env.scope x=true:=by rfl)(hd:(x == ("__debug__":Str))=false:=by decide)(cp:(x == ("__classdict__":Str))=false:=by decide):PE X (.Name x pos) (tVar i):=KY hN (visI hv) hd cp
end
theorem iteF{A B:Prop}(h:B):if false=true then A else B:=by
 rw[if_neg l_];exact h
theorem iteT{A B:Prop}(h:A):if true=true then A else B:=by
 rw[if_pos rfl];exact h
def Same(H H':Hp):Prop:=∀b o,H b=some o->H' b=some o
theorem Same.refl(H:Hp):Same H H:=λ_ _ h=>h
theorem Same.trans{H H1:Hp}(a:Same H H1)(b:Same H1 H2):Same H H2:=λc o h=>b c o (a c o h)
theorem Same.free{H:Hp}(e:Same H H'){l:i_}(h:H' l=Option.none):H l=Option.none:=by
 cases q:H l with
 | none=>rfl
 | some o =>
  rw[e l o q] at h;cases h
end L2
set_option maxHeartbeats 4000000
namespace DL
open PySem PySem.Spec PyProof.Rows L2
inductive D where
 | non | bl (b:Bool) | int (i:Int) | str (x:Str) | tup (xs:List D) | lst (xs:List D) | exc (x:Str) (n:Option Int)
noncomputable def clOf(K:PySem.W.Frag)(x:Str):i_:=match PySem.W.nsIn K Sn x with
 | some (some (.ref C))=>C
 | _=>0
noncomputable def ExO(K:PySem.W.Frag)(a:i_)(x:Str)(d:Option i_):HO:=.ext λh=>∃o vs,h.get? a=some o/\o.cls=.ref (clOf K x)/\o.data=.fields vs/\∀dx,d=some dx->o.dict=some dx
def ExN(I:Hp)(d:Option i_)(n:Option Int):Prop:=∀k,n=some k->∃dx,d=some dx/\I dx=some (.xd [("number", .int k)])
def RdK(K:PySem.W.Frag)(I:Hp)(a:i_)(xs:List V):Prop:=Rd I a (.lst xs)\/∃(ac:List b_) (n:Nat),K.lookup a=some { cls:=.type "list", data:=.seq ac.toArray n }/\Vals xs ac/\ac.length<=A_
theorem RdK.of{K:PySem.W.Frag}(h:I a=some (.lst xs)):RdK K I a xs:=.inl (.inl h)
theorem RdK.sq{K:PySem.W.Frag}(h:RdK K I a xs):SqL K I a xs:=by
 rcases h with h | ⟨ac,n,h1,h2,h3⟩
 ·exact .inl h
 ·exact .inr ⟨_,ac.toArray,n,h1,rfl,rfl,rfl,by simpa using h3,by simpa using h2⟩
mutual
def Is(K:PySem.W.Frag)(I:Hp):D->V->Prop
 | .non,v=>v=.non
 | .bl b,v=>v=.bl b
 | .int i,v=>v=.int i
 | .str x,v=>v=.str x
 | .tup ds,v=>∃a xs,v=.ref a/\SqT K I a xs/\IsA K I ds xs
 | .lst ds,v=>∃a xs,v=.ref a/\RdK K I a xs/\IsA K I ds xs
 | .exc x n,v=>∃a d,v=.ref a/\I a=some (ExO K a x d)/\ExN I d n
def IsA(K:PySem.W.Frag)(I:Hp):List D->List V->Prop
 | [],xs=>xs=[]
 | d::ds,xs=>∃x r,xs=x::r/\Is K I d x/\IsA K I ds r
end
section
variable{K:PySem.W.Frag}{H:Hp}
theorem Same.rd(e:Same I I')(h:Rd I a o):Rd I' a o:=by
 rcases h with h | ⟨u,h⟩
 ·exact .inl (e _ _ h)
 ·exact .inr ⟨u,e _ _ h⟩
theorem Same.rdK(e:Same I I')(h:RdK K I a xs):RdK K I' a xs:=by
 rcases h with h | h
 ·exact .inl (Same.rd e h)
 ·exact .inr h
theorem Same.sqT(e:Same I I')(h:SqT K I a xs):SqT K I' a xs:=by
 rcases h with h | h
 ·exact .inl (Same.rd e h)
 ·exact .inr h
mutual
theorem Is.mono(e:Same I I'):∀{d:D}{v:V},Is K I d v->Is K I' d v
 | .non,_,h=>by rw[Is] at h ⊢;exact h
 | .bl _,_,h=>by rw[Is] at h ⊢;exact h
 | .int _,_,h=>by rw[Is] at h ⊢;exact h
 | .str _,_,h=>by rw[Is] at h ⊢;exact h
 | .tup ds,v,h=>by
  rw[Is] at h ⊢;obtain⟨a,xs,e1,e2,e3⟩:=h;exact⟨a,xs,e1,Same.sqT e e2,IsA.mono e e3⟩
 | .lst ds,v,h=>by
  rw[Is] at h ⊢;obtain⟨a,xs,e1,e2,e3⟩:=h;exact⟨a,xs,e1,Same.rdK e e2,IsA.mono e e3⟩
 | .exc x n,v,h=>by
  rw[Is] at h ⊢;obtain⟨a,d,e1,e2,e3⟩:=h;exact⟨a,d,e1,e _ _ e2,λk z=>let ⟨dx,q1,q2⟩:=e3 k z;⟨dx,q1,e _ _ q2⟩⟩
theorem IsA.mono(e:Same I I'):∀{ds:List D}{xs:List V},IsA K I ds xs->IsA K I' ds xs
 | [],_,h=>by rw[IsA] at h ⊢;exact h
 | d::ds,xs,h=>by
  rw[IsA] at h ⊢;obtain⟨x,r,e1,e2,e3⟩:=h;exact⟨x,r,e1,Is.mono e e2,IsA.mono e e3⟩
end
theorem IsA.nil:IsA K I [] []:=by rw[IsA]
theorem IsA.cons{d:D}{ds:List D}{x:V}(h:Is K I d x)(t:IsA K I ds xs):IsA K I (d::ds) (x::xs):=by
 rw[IsA];exact⟨x,xs,rfl,h,t⟩
theorem IsA.nil_inv(h:IsA K I [] xs):xs=[]:=by rw[IsA] at h;exact h
theorem IsA.cons_inv{d:D}{ds:List D}(h:IsA K I (d::ds) xs):∃x r,xs=x::r/\Is K I d x/\IsA K I ds r:=by rw[IsA] at h;exact h
theorem IsA.length:∀{ds:List D}{xs:List V},IsA K I ds xs->ds.length=xs.length
 | [],xs,h=>by rw[h.nil_inv]<;>rfl
 | d::ds,xs,h=>by
  obtain⟨x,r,rfl,_,t⟩:=h.cons_inv;simp[IsA.length t]
theorem IsA.get:∀{ds:List D}{xs:List V}{i:Nat}{d:D},IsA K I ds xs->ds[i]?=some d->∃x,xs[i]?=some x/\Is K I d x
 | [],xs,i,d,h,e=>by simp at e
 | c::ds,xs,0,d,h,e=>by
  obtain⟨x,r,rfl,hx,t⟩:=h.cons_inv;simp at e;subst e;exact⟨x,rfl,hx⟩
 | c::ds,xs,i+1,d,h,e=>by
  obtain⟨x,r,rfl,hx,t⟩:=h.cons_inv;obtain⟨y,e1,e2⟩:=IsA.get (i:=i) t (by simpa using e);exact⟨y,by simpa using e1,e2⟩
theorem IsA.append:∀{ds es:List D}{xs ys:List V},IsA K I ds xs->IsA K I es ys->IsA K I (ds++es) (xs++ys)
 | [],es,xs,ys,h,t=>by rw[h.nil_inv];exact t
 | d::ds,es,xs,ys,h,t=>by
  obtain⟨x,r,rfl,hx,h'⟩:=h.cons_inv;exact IsA.cons hx (IsA.append h' t)
theorem IsA.take:∀{ds:List D}{xs:List V} (n:Nat),IsA K I ds xs->IsA K I (ds.take n) (xs.take n)
 | ds,xs,0,h=>by rw[List.take_zero,List.take_zero];exact IsA.nil
 | [],xs,n+1,h=>by rw[h.nil_inv];exact IsA.nil
 | d::ds,xs,n+1,h=>by
  obtain⟨x,r,rfl,hx,h'⟩:=h.cons_inv;rw[WG,WG];exact IsA.cons hx (IsA.take n h')
theorem IsA.drop:∀{ds:List D}{xs:List V} (n:Nat),IsA K I ds xs->IsA K I (ds.drop n) (xs.drop n)
 | ds,xs,0,h=>by rw[List.drop_zero,List.drop_zero];exact h
 | [],xs,n+1,h=>by rw[h.nil_inv];exact IsA.nil
 | d::ds,xs,n+1,h=>by
  obtain⟨x,r,rfl,hx,h'⟩:=h.cons_inv;rw[Vm,Vm];exact IsA.drop n h'
theorem IsA.set{d:D}{x:V}(q:Is K I d x):∀{ds:List D}{xs:List V} (n:Nat),IsA K I ds xs->IsA K I (ds.set n d) (xs.set n x)
 | [],xs,n,h=>by rw[h.nil_inv];exact IsA.nil
 | c::ds,xs,0,h=>by
  obtain⟨y,r,rfl,hx,h'⟩:=h.cons_inv;exact IsA.cons q h'
 | c::ds,xs,n+1,h=>by
  obtain⟨y,r,rfl,hx,h'⟩:=h.cons_inv;exact IsA.cons hx (IsA.set q n h')
theorem IsA.one{d:D}(h:IsA K I [d] xs):∃x,xs=[x]/\Is K I d x:=by
 obtain⟨x,r,rfl,hx,t⟩:=h.cons_inv;rw[t.nil_inv];exact⟨x,rfl,hx⟩
theorem IsA.two{d e:D}(h:IsA K I [d,e] xs):∃x y,xs=[x,y]/\Is K I d x/\Is K I e y:=by
 obtain⟨x,r,rfl,hx,t⟩:=h.cons_inv;obtain⟨y,rfl,hy⟩:=t.one;exact⟨x,y,rfl,hx,hy⟩
theorem sQ{i:Int}{v:V}(h:Is K I (.int i) v):v=.int i:=by rw[Is] at h;exact h
theorem tY{i:Bool}{v:V}(h:Is K I (.bl i) v):v=.bl i:=by rw[Is] at h;exact h
theorem uG{i:Str}{v:V}(h:Is K I (.str i) v):v=.str i:=by rw[Is] at h;exact h
theorem uE{v:V}(h:Is K I .non v):v=.non:=by rw[Is] at h;exact h
theorem sY{ds:List D}{v:V}(h:Is K I (.tup ds) v):∃a xs,v=.ref a/\SqT K I a xs/\IsA K I ds xs:=by rw[Is] at h;exact h
theorem sU{ds:List D}{v:V}(h:Is K I (.lst ds) v):∃a xs,v=.ref a/\RdK K I a xs/\IsA K I ds xs:=by rw[Is] at h;exact h
theorem Bf{x:Str}{n:Option Int}{v:V}(h:Is K I (.exc x n) v):∃a d,v=.ref a/\I a=some (ExO K a x d)/\ExN I d n:=by rw[Is] at h;exact h
theorem Is.exc{x:Str}{n:Option Int}{d:Option i_}(h:I a=some (ExO K a x d))(q:ExN I d n):Is K I (.exc x n) (.ref a):=by rw[Is];exact⟨a,d,rfl,h,q⟩
theorem Is.int(i:Int):Is K I (.int i) (.int i):=by rw[Is]
theorem Is.bl(i:Bool):Is K I (.bl i) (.bl i):=by rw[Is]
theorem Is.str(i:Str):Is K I (.str i) (.str i):=by rw[Is]
theorem Is.non:Is K I .non .non:=by rw[Is]
theorem Is.tup{ds:List D}(h:SqT K I a xs)(t:IsA K I ds xs):Is K I (.tup ds) (.ref a):=by rw[Is];exact⟨a,xs,rfl,h,t⟩
theorem Is.lst{ds:List D}(h:RdK K I a xs)(t:IsA K I ds xs):Is K I (.lst ds) (.ref a):=by rw[Is];exact⟨a,xs,rfl,h,t⟩
end
inductive R where
 | val (d:D) | own (ds:List D) | bor (ds:List D) | fro (ds:List D) | dic (aY:List (Int×D))
noncomputable def R.mut:R->Bool
 | .val _=>false
 | .own _=>true
 | .bor _=>true
 | .fro _=>false
 | .dic _=>false
noncomputable def R.ptr:R->Bool
 | .val _=>false
 | .own _=>true
 | .bor _=>true
 | .fro _=>false
 | .dic _=>true
abbrev Gm:=List (Option R)
def Mt(K:PySem.W.Frag)(G I H:Hp)(ds:List D)(v:V):Prop:=∃p xs,v=.ref p/\H p=some (.lst xs)/\I p=none/\G p=none/\IsA K I ds xs
def IsK(K:PySem.W.Frag)(I:Hp)(aY:List (Int×D))(xs:List (Key×V)):Prop:=xs.map (·.1)=aY.map (λq=>inl q.1)/\IsA K I (aY.map (·.2)) (xs.map (·.2))
theorem IsK.mono{K:PySem.W.Frag}{aY:List (Int×D)}{xs:List (Key×V)}(e:Same I I')(h:IsK K I aY xs):IsK K I' aY xs:=⟨h.1,h.2.mono e⟩
def MtK(K:PySem.W.Frag)(G I H:Hp)(aY:List (Int×D))(v:V):Prop:=∃p xs,v=.ref p/\H p=some (.dK xs)/\I p=none/\G p=none/\IsK K I aY xs
def SlotOk(K:PySem.W.Frag)(G I H:Hp):R->V->Prop
 | .val d,v=>Is K I d v
 | .own ds,v=>Mt K G I H ds v
 | .bor ds,v=>Mt K G I H ds v
 | .fro ds,v=>∃p xs,v=.ref p/\I p=some (.lst xs)/\G p=none/\IsA K I ds xs
 | .dic aY,v=>MtK K G I H aY v
theorem SlotOk.mt{K:PySem.W.Frag}{H:Hp}{r:R}{v:V}(h:SlotOk K G I H r v)(m:r.ptr=true):∃p xs,v=.ref p/\H p=some xs/\I p=none/\G p=none:=by
 cases r with
 | val d=>cases m
 | own ds=>obtain⟨p,xs,e1,e2,e3,e4,_⟩:=h;exact⟨p,_,e1,e2,e3,e4⟩
 | bor ds=>obtain⟨p,xs,e1,e2,e3,e4,_⟩:=h;exact⟨p,_,e1,e2,e3,e4⟩
 | fro ds=>cases m
 | dic ds=>obtain⟨p,xs,e1,e2,e3,e4,_⟩:=h;exact⟨p,_,e1,e2,e3,e4⟩
structure Rep(K:PySem.W.Frag)(B:Nat->Option (Option V))(G I H:Hp)(Z:L2.St)(Γ:Gm):Prop where
 iH:Same I H
 gH:Same G H
 len:Z.length=Γ.length
 slot:∀(i:Nat) (r:R),Γ[i]?=some (some r)->∃v,Z[i]?=some (some v)/\SlotOk K G I H r v
 dist:∀(i j:Nat) (r r':R) (v:V),Γ[i]?=some (some r)->Γ[j]?=some (some r')->r.ptr=true->r'.ptr=true->Z[i]?=some (some v)->Z[j]?=some (some v)->i=j
 bor:∀(i:Nat) (ds:List D),Γ[i]?=some (some (.bor ds))->Z[i]?=B i
structure Grow(G I I':Hp):Prop where
 up:Same I I'
 new:∀b o,I' b=some o->I b=some o\/G b=none
theorem Grow.refl(G I:Hp):Grow G I I:=⟨Same.refl _,λ_ _ h=>.inl h⟩
theorem Grow.trans{I1 I2:Hp}(a:Grow G I I1)(b:Grow G I1 I2):Grow G I I2:=⟨a.up.trans b.up,λc o h=>by
 rcases b.new c o h with h1 | h1
 ·exact a.new c o h1
 ·exact .inr h1⟩
section
variable{K:PySem.W.Frag}{B:Nat->Option (Option V)}{H:Hp}{Γ:Gm}
theorem Rep.ext(r:Rep K B G I H Z Γ)(hI:Same I I')(hH:Same H H')(iH:Same I' H')(new:∀b o,I' b=some o->I b=some o\/H b=none):Rep K B G I' H' Z Γ where
 iH:=iH
 gH:=r.gH.trans hH
 len:=r.len
 slot:=λi q e=>by
  obtain⟨v,e1,e2⟩:=r.slot i q e;refine⟨v,e1,?_⟩
  have mt:∀ds,Mt K G I H ds v->Mt K G I' H' ds v:=λds h=>by
   obtain⟨p,xs,h1,h2,h3,h4,h5⟩:=h;refine⟨p,xs,h1,hH _ _ h2,?_,h4,h5.mono hI⟩;cases z:I' p with
   | none=>rfl
   | some o =>
    rcases new p o z with z1 | z1
    ·rw[h3] at z1;cases z1
    ·rw[h2] at z1;cases z1
  cases q with
  | val d=>exact Is.mono hI e2
  | dic ds =>
   obtain⟨p,xs,h1,h2,h3,h4,h5⟩:=e2;refine⟨p,xs,h1,hH _ _ h2,?_,h4,h5.mono hI⟩;cases z:I' p with
   | none=>rfl
   | some o =>
    rcases new p o z with z1 | z1
    ·rw[h3] at z1;cases z1
    ·rw[h2] at z1;cases z1
  | own ds=>exact mt ds e2
  | bor ds=>exact mt ds e2
  | fro ds=>obtain⟨p,xs,f1,f2,f3,f4⟩:=e2;exact⟨p,xs,f1,hI _ _ f2,f3,f4.mono hI⟩
 dist:=r.dist
 bor:=r.bor
theorem tW{H:Hp}{p:i_}(h:H p=none)(o:HO):Same H (upd H p o):=λb u q=>by rw[sN (uQ q h)];exact q
theorem Eg{I H:Hp}{p:i_}(h:Same I H)(o:HO):Same (upd I p o) (upd H p o):=λb u q=>by
 by_cases e:b=p
 ·subst e;rw[tm] at q ⊢;exact q
 ·rw[sN e] at q ⊢;exact h b u q
theorem Rep.iFree(r:Rep K B G I H Z Γ){p:i_}(h:H p=none):I p=none:=r.iH.free h
theorem Rep.gFree(r:Rep K B G I H Z Γ){p:i_}(h:H p=none):G p=none:=r.gH.free h
theorem Rep.alloc(r:Rep K B G I H Z Γ){p:i_}(h:H p=none)(o:HO):Rep K B G (upd I p o) (upd H p o) Z Γ:=
 r.ext (tW (r.iFree h) o) (tW h o) (Eg r.iH o) λb u q=>by
  by_cases e:b=p
  ·subst e;exact .inr h
  ·rw[sN e] at q;exact .inl q
theorem Rep.growAlloc(r:Rep K B G I H Z Γ){p:i_}(h:H p=none)(o:HO):Grow G I (upd I p o):=⟨tW (r.iFree h) o,λb u q=>by
 by_cases e:b=p
 ·subst e;exact .inr (r.gFree h)
 ·rw[sN e] at q;exact .inl q⟩
theorem Rep.fresh(r:Rep K B G I H Z Γ){p:i_}(h:H p=none)(o:HO):Rep K B G I (upd H p o) Z Γ:=
 r.ext (Same.refl _) (tW h o) (r.iH.trans (tW h o)) λb u q=>.inl q
def Apart(Z:L2.St)(Γ:Gm)(p:i_):Prop:=∀(j:Nat) (r:R),Γ[j]?=some (some r)->r.ptr=true->Z[j]?≠some (some (.ref p))
theorem Rep.apart(r:Rep K B G I H Z Γ){p:i_}(h:H p=none):Apart Z Γ p:=λj q e m z=>by
 obtain⟨v,e1,e2⟩:=r.slot j q e;obtain⟨p',xs,h1,h2,_,_⟩:=e2.mt m;rw[e1] at z;subst h1;cases z;rw[h] at h2;cases h2
theorem Rep.freeze(r:Rep K B G I H Z Γ){p:i_}(h:H p=some (.lst xs))(hi:I p=none)(a:Apart Z Γ p):Rep K B G (upd I p (.lst xs)) H Z Γ where
 iH:=λb u q=>by
  by_cases e:b=p
  ·subst e;rw[tm] at q;cases q;exact h
  ·rw[sN e] at q;exact r.iH b u q
 gH:=r.gH
 len:=r.len
 slot:=λi q e=>by
  obtain⟨v,e1,e2⟩:=r.slot i q e;refine⟨v,e1,?_⟩;have up:=tW hi (.lst xs)
  have mt:q.ptr=true->∀ds,Mt K G I H ds v->Mt K G (upd I p (.lst xs)) H ds v:=λm ds h=>by
   obtain⟨p',bV,h1,h2,h3,h4,h5⟩:=h;refine⟨p',bV,h1,h2,?_,h4,h5.mono up⟩;have ne:p'≠p:=λz=>a i q e m (by rw[e1,h1,z])
   rw[sN ne];exact h3
  cases q with
  | val d=>exact Is.mono up e2
  | dic ds =>
   obtain⟨p',bV,h1,h2,h3,h4,h5⟩:=e2;refine⟨p',bV,h1,h2,?_,h4,h5.mono up⟩;have ne:p'≠p:=λz=>a i _ e rfl (by rw[e1,h1,z])
   rw[sN ne];exact h3
  | own ds=>exact mt rfl ds e2
  | bor ds=>exact mt rfl ds e2
  | fro ds=>obtain⟨p,xs,f1,f2,f3,f4⟩:=e2;exact⟨p,xs,f1,up _ _ f2,f3,f4.mono up⟩
 dist:=r.dist
 bor:=r.bor
theorem growFreeze{G I:Hp}{p:i_}(hi:I p=none)(hg:G p=none):Grow G I (upd I p (.lst xs)):=⟨tW hi _,λb u q=>by
 by_cases e:b=p
 ·subst e;exact .inr hg
 ·rw[sN e] at q;exact .inl q⟩
theorem tJ{α:Type}{l:List α}{a b:α}(h:(l.set i a)[j]?=some b):(j=i/\b=a/\i < l.length)\/(j≠i/\l[j]?=some b):=by
 by_cases e:j=i
 ·subst e;by_cases hl:j < l.length
  ·rw[Tk hl] at h;cases h;exact .inl ⟨rfl,rfl,hl⟩
  ·rw[TQ (by rw[Tn];omega)] at h;cases h
 ·rw[R_ (R5 e)] at h;exact .inr ⟨e,h⟩
theorem Rep.forget(r:Rep K B G I H Z Γ)(i:Nat):Rep K B G I H Z (Γ.set i none) where
 iH:=r.iH
 gH:=r.gH
 len:=by rw[Tn];exact r.len
 slot:=λj q e=>by
  rcases tJ e with⟨_,z,_⟩ | ⟨_,z⟩
  ·cases z
  ·exact r.slot j q z
 dist:=λj k q q' v e e'=>by
  rcases tJ e with⟨_,z,_⟩ | ⟨_,z⟩
  ·cases z
  rcases tJ e' with⟨_,z',_⟩ | ⟨_,z'⟩
  ·cases z'
  exact r.dist j k q q' v z z'
 bor:=λj ds e=>by
  rcases tJ e with⟨_,z,_⟩ | ⟨_,z⟩
  ·cases z
  ·exact r.bor j ds z
theorem Rep.learn(r:Rep K B G I H Z Γ){q:R}{v:V}(hv:Z[i]?=some (some v))(ok:SlotOk K G I H q v)(ha:q.ptr=true->∀p,v=.ref p->∀(j:Nat) (r:R),j≠i->Γ[j]?=some (some r)->r.ptr=true->Z[j]?≠some (some (.ref p)))(hb:∀ds,q=.bor ds->Z[i]?=B i):Rep K B G I H Z (Γ.set i (some q)) where
 iH:=r.iH
 gH:=r.gH
 len:=by rw[Tn];exact r.len
 slot:=λj q' e=>by
  rcases tJ e with⟨rfl,z,_⟩ | ⟨_,z⟩
  ·cases z;exact⟨v,hv,ok⟩
  ·exact r.slot j q' z
 dist:=λj k q1 q2 w e e' m1 m2 s1 s2=>by
  rcases tJ e with⟨rfl,z,_⟩ | ⟨n1,z⟩
  ·cases z
   rcases tJ e' with⟨rfl,z',_⟩ | ⟨n2,z'⟩
   ·rfl
   ·obtain⟨p,xs,e1,_⟩:=ok.mt m1;rw[hv] at s1;cases s1;exact absurd (e1▸s2) (ha m1 p e1 k q2 n2 z' m2)
  ·rcases tJ e' with⟨rfl,z',_⟩ | ⟨n2,z'⟩
   ·cases z';obtain⟨p,xs,e1,_⟩:=ok.mt m2;rw[hv] at s2;cases s2;exact absurd (e1▸s1) (ha m2 p e1 j q1 n1 z m1)
   ·exact r.dist j k q1 q2 w z z' m1 m2 s1 s2
 bor:=λj ds e=>by
  rcases tJ e with⟨rfl,z,_⟩ | ⟨_,z⟩
  ·cases z;exact hb ds rfl
  ·exact r.bor j ds z
theorem Rep.store(r:Rep K B G I H Z Γ){q:R}{v:V}(hi:i < Z.length)(ok:SlotOk K G I H q v)(ha:q.ptr=true->∀p,v=.ref p->Apart Z Γ p)(hb:∀ds,q≠.bor ds):Rep K B G I H (Z.set i (some v)) (Γ.set i (some q)):=by
 have r1:Rep K B G I H (Z.set i (some v)) (Γ.set i none):={
  iH:=r.iH,gH:=r.gH,len:=by rw[Tn,Tn];exact r.len
  slot:=λj q' e=>by
   rcases tJ e with⟨_,z,_⟩ | ⟨n,z⟩
   ·cases z
   ·rw[R_ (R5 n)];exact r.slot j q' z
  dist:=λj k q1 q2 w e e' m1 m2 s1 s2=>by
   rcases tJ e with⟨_,z,_⟩ | ⟨n1,z⟩
   ·cases z
   rcases tJ e' with⟨_,z',_⟩ | ⟨n2,z'⟩
   ·cases z'
   rw[R_ (R5 n1)] at s1;rw[R_ (R5 n2)] at s2;exact r.dist j k q1 q2 w z z' m1 m2 s1 s2
  bor:=λj ds e=>by
   rcases tJ e with⟨_,z,_⟩ | ⟨n,z⟩
   ·cases z
   ·rw[R_ (R5 n)];exact r.bor j ds z }
 have r2:=r1.learn (i:=i) (q:=q) (v:=v) (by rw[Tk hi]) ok (λm p e j q' n z m' s=>by
  rcases tJ z with⟨_,z',_⟩ | ⟨_,z'⟩
  ·cases z'
  ·rw[R_ (R5 n)] at s
   exact ha m p e j q' z' m' s) (λds e=>absurd e (hb ds))
 rw[Yc] at r2;exact r2
theorem Rep.write(r:Rep K B G I H Z Γ){q q':R}{p:i_}{ys:List V}{ds:List D}(hq:Γ[i]?=some (some q))(hm:q.ptr=true)(hs:Z[i]?=some (some (.ref p)))(h:H p=some (.lst xs))(cZ:q'=.own ds\/(q'=.bor ds/\∃es,q=.bor es))(hd:IsA K I ds ys):
  Rep K B G I (upd H p (.lst ys)) Z (Γ.set i (some q')):=by
 obtain⟨v,e1,e2⟩:=r.slot i q hq;obtain⟨p',bV,h1,h2,h3,h4⟩:=e2.mt hm;have hp:p'=p:=by rw[hs] at e1;subst h1;cases e1;rfl
 subst hp;have fc:∀(j:Nat) (r':R),j≠i->Γ[j]?=some (some r')->r'.ptr=true->Z[j]?≠some (some (.ref p')):=λj r' n z m s=>n (r.dist j i r' q _ z hq m hm s hs)
 have sI:Same I (upd H p' (.lst ys)):=λb u z=>by
  have ne:b≠p':=λe=>by subst e;rw[h3] at z;cases z
  rw[sN ne];exact r.iH b u z
 have sG:Same G (upd H p' (.lst ys)):=λb u z=>by
  have ne:b≠p':=λe=>by subst e;rw[h4] at z;cases z
  rw[sN ne];exact r.gH b u z
 have r1:Rep K B G I (upd H p' (.lst ys)) Z (Γ.set i none):={
  iH:=sI,gH:=sG,len:=by rw[Tn];exact r.len
  slot:=λj q1 e=>by
   rcases tJ e with⟨_,z,_⟩ | ⟨n,z⟩
   ·cases z
   obtain⟨w,e3,e4⟩:=r.slot j q1 z;refine⟨w,e3,?_⟩
   have mt:q1.ptr=true->∀ds,Mt K G I H ds w->Mt K G I (upd H p' (.lst ys)) ds w:=λm ds hh=>by
    obtain⟨p2,fU,g1,g2,g3,g4,g5⟩:=hh;refine⟨p2,fU,g1,?_,g3,g4,g5⟩;have ne:p2≠p':=λz2=>fc j q1 n z m (by rw[e3,g1,z2])
    rw[sN ne];exact g2
   cases q1 with
   | val d=>exact e4
   | dic ds =>
    obtain⟨p2,fU,g1,g2,g3,g4,g5⟩:=e4;refine⟨p2,fU,g1,?_,g3,g4,g5⟩;have ne:p2≠p':=λz2=>fc j _ n z rfl (by rw[e3,g1,z2])
    rw[sN ne];exact g2
   | own ds=>exact mt rfl ds e4
   | bor ds=>exact mt rfl ds e4
   | fro ds=>exact e4
  dist:=(r.forget i).dist
  bor:=(r.forget i).bor }
 have mF:Mt K G I (upd H p' (.lst ys)) ds (.ref p'):=⟨p',ys,rfl,tm,h3,h4,hd⟩
 have r2:=r1.learn (i:=i) (q:=q') (v:=.ref p') hs (by rcases cZ with rfl | ⟨rfl,_⟩<;>exact mF) (λm p2 e j r' n z m' s=>by
  cases e
  rcases tJ z with⟨_,z',_⟩ | ⟨_,z'⟩
  ·cases z'
  ·exact fc j r' n z' m' s) (λes e=>by
  rcases cZ with rfl | ⟨rfl,es',rfl⟩
  ·cases e
  ·exact r.bor i es' hq)
 rw[Yc] at r2;exact r2
end
end DL
variable{ys ds:List DL.D}{d:DL.D}{Γ ae Γ1 Γ2:DL.Gm}{F:List DL.D->Option (List DL.D)}{F':DL.D->DL.D->Option DL.D}{rr:DL.R}{ts:List (List DL.D)}
namespace DL
open PySem PySem.Spec PyProof.Rows L2
noncomputable abbrev M(α:Type):=Gm->Option (α×Gm)
noncomputable def ret{α:Type}(a:α):M α:=λΓ=>some (a,Γ)
noncomputable def bnd{α β:Type}(m:M α)(f:α->M β):M β:=λΓ=>match m Γ with
 | some (a,Γ1)=>f a Γ1
 | none=>none
noncomputable def lft{α:Type}(o:Option α):M α:=λΓ=>match o with
 | some a=>some (a,Γ)
 | none=>none
theorem rK{α β:Type}{m:M α}{f:α->M β}{b:β}(h:bnd m f Γ=some (b,ae)):∃a Γ1,m Γ=some (a,Γ1)/\f a Γ1=some (b,ae):=by
 unfold bnd at h;cases e:m Γ with
 | none=>rw[e] at h;cases h
 | some q=>obtain⟨a,Γ1⟩:=q;rw[e] at h;exact⟨a,Γ1,rfl,h⟩
theorem sW{α:Type}{o:Option α}{a:α}(h:lft o Γ=some (a,ae)):o=some a/\ae=Γ:=by
 unfold lft at h;cases o with
 | none=>cases h
 | some b=>cases h;exact⟨rfl,rfl⟩
section
variable (K:PySem.W.Frag)(B:Nat->Option (Option V))
def KD(G I:Hp)(Z:L2.St)(ae:Gm)(d:D)(Q:VK):Prop:=∀v H' I',Rep K B G I' H' Z ae->Grow G I I'->Is K I' d v->Q v H'
def KO(G I:Hp)(Z:L2.St)(ae:Gm)(ds:List D)(Q:VK):Prop:=∀p xs H' I',Rep K B G I' H' Z ae->Grow G I I'->H' p=some (.lst xs)->I' p=none->G p=none->Apart Z ae p->IsA K I' ds xs->Q (.ref p) H'
def KT(G I:Hp)(Z:L2.St)(ae:Gm)(b:Bool)(Q:Bool->Hp->Prop):Prop:=∀H' I',Rep K B G I' H' Z ae->Grow G I I'->Q b H'
def KA(G I:Hp)(Z:L2.St)(ae:Gm)(ds:List D)(Q:List V->Hp->Prop):Prop:=∀vs H' I',Rep K B G I' H' Z ae->Grow G I I'->IsA K I' ds vs->Q vs H'
noncomputable def tD(g:M D):TE:=λZ H Q=>∃G I Γ d ae,Rep K B G I H Z Γ/\g Γ=some (d,ae)/\KD K B G I Z ae d Q
noncomputable def tO(g:M (List D)):TE:=λZ H Q=>∃G I Γ ds ae,Rep K B G I H Z Γ/\g Γ=some (ds,ae)/\KO K B G I Z ae ds Q
noncomputable def tTD(g:M Bool):TT:=λZ H Q=>∃G I Γ b ae,Rep K B G I H Z Γ/\g Γ=some (b,ae)/\KT K B G I Z ae b Q
noncomputable def tAD(g:M (List D)):TA:=λZ H Q=>∃G I Γ ds ae,Rep K B G I H Z Γ/\g Γ=some (ds,ae)/\KA K B G I Z ae ds Q
end
abbrev BB:=Nat->Option (Option V)
def ED(X:Cx)(B:BB)(e:RW)(g:M D):Prop:=PE X e (tD X.K B g)
def EO(X:Cx)(B:BB)(e:RW)(g:M (List D)):Prop:=PE X e (tO X.K B g)
def TD(X:Cx)(B:BB)(e:RW)(g:M Bool):Prop:=PT X e (tTD X.K B g)
def TW(X:Cx)(B:BB)(e:RW)(g:M Bool):Prop:=PW X e (tTD X.K B g)
def AD(X:Cx)(B:BB)(es:List RW)(g:M (List D)):Prop:=PA X es (tAD X.K B g)
section
theorem PE.imp{t t':TE}(h:PE X e t)(f:∀Z H Q,t' Z H Q->t Z H Q):PE X e t':=λaa s Z H Q I q=>h aa s Z H Q I (f Z H Q q)
theorem PT.imp{t t':TT}(h:PT X e t)(f:∀Z H Q,t' Z H Q->t Z H Q):PT X e t':=λaa s Z H Q I q=>h aa s Z H Q I (f Z H Q q)
theorem PW.imp{t t':TT}(h:PW X e t)(f:∀Z H Q,t' Z H Q->t Z H Q):PW X e t':=λwh aa s Z H Q I q=>h wh aa s Z H Q I (f Z H Q q)
theorem PA.imp{es:List RW}{t t':TA}(h:PA X es t)(f:∀Z H Q,t' Z H Q->t Z H Q):PA X es t':=λpos aa s Z H Q I q=>h pos aa s Z H Q I (f Z H Q q)
end
section
variable{K:PySem.W.Frag}{B:BB}{I1 I2 H H1:Hp}{Q:VK}
theorem KD.now(k:KD K B G I Z Γ d Q)(r:Rep K B G I H Z Γ){v:V}(h:Is K I d v):Q v H:=k v H I r (Grow.refl _ _) h
theorem KD.after(k:KD K B G I Z ae d Q)(g:Grow G I I1):KD K B G I1 Z ae d Q:=λv H' I' r g' h=>k v H' I' r (g.trans g') h
theorem KO.after(k:KO K B G I Z ae ds Q)(g:Grow G I I1):KO K B G I1 Z ae ds Q:=λp xs H' I' r g'=>k p xs H' I' r (g.trans g')
theorem KT.after{b:Bool}{Q:Bool->Hp->Prop}(k:KT K B G I Z ae b Q)(g:Grow G I I1):KT K B G I1 Z ae b Q:=λH' I' r g'=>k H' I' r (g.trans g')
theorem KD.tup(k:KD K B G I Z Γ (.tup ds) Q)(r:Rep K B G I H Z Γ){p:i_}(hp:H p=none)(h:IsA K I ds xs):Q (.ref p) (upd H p (.tup xs)):=
 k _ _ _ (r.alloc hp _) (r.growAlloc hp _) (Is.tup (SqT.of tm) (h.mono (tW (r.iFree hp) _)))
theorem KO.new(k:KO K B G I Z Γ ds Q)(r:Rep K B G I H Z Γ){p:i_}(hp:H p=none)(h:IsA K I ds xs):Q (.ref p) (upd H p (.lst xs)):=
 k p xs _ I (r.fresh hp _) (Grow.refl _ _) tm (r.iFree hp) (r.gFree hp) (r.apart hp) h
end
section
variable{B:BB}{a b c:RW}{es:List RW}{ga gb gc:M D}
noncomputable def frz(g:M (List D)):M D:=bnd g λds=>ret (.lst ds)
theorem sM{g:M (List D)}(h:EO X B e g):ED X B e (frz g):=PE.imp h λZ H Q q=>by
 obtain⟨G,I,Γ,d,ae,r,e1,k⟩:=q;obtain⟨ds,Γ1,e2,e3⟩:=rK e1;cases e3;refine⟨G,I,Γ,ds,_,r,e2,λp xs H' I' r' g h1 h2 h3 h4 h5=>?_⟩;exact k _ _ _ (r'.freeze h1 h2 h4) (g.trans (growFreeze h2 h3)) (Is.lst (RdK.of tm) (h5.mono (tW h2 _)))
noncomputable def nm(i:Nat):M D:=λΓ=>match Γ[i]? with
 | some (some (.val d))=>some (d,Γ)
 | some (some (.own ds))=>some (.lst ds,Γ.set i (some (.val (.lst ds))))
 | some (some (.fro ds))=>some (.lst ds,Γ)
 | _=>none
theorem Fh{x:Str}(h:PE X (.Name x pos) (tVar i)):ED X B (.Name x pos) (nm i):=PE.imp h λZ H Q q=>by
 obtain⟨G,I,Γ,d,ae,r,e1,k⟩:=q;unfold nm at e1;cases e:Γ[i]? with
 | none=>rw[e] at e1;cases e1
 | some o =>
  cases o with
  | none=>rw[e] at e1;cases e1
  | some q =>
   obtain⟨v,h1,h2⟩:=r.slot i q e;cases q with
   | val d'=>rw[e] at e1;cases e1;exact⟨v,h1,k.now r h2⟩
   | bor ds=>rw[e] at e1;cases e1
   | dic ds=>rw[e] at e1;cases e1
   | fro ds=>rw[e] at e1;cases e1;obtain⟨p,xs,rfl,f1,f2,f3⟩:=h2;exact⟨_,h1,k.now r (Is.lst (RdK.of f1) f3)⟩
   | own ds =>
    rw[e] at e1;cases e1;obtain⟨p,xs,rfl,g1,g2,g3,g4⟩:=h2;refine⟨_,h1,k _ _ (upd I p (.lst xs)) ?_ (growFreeze g2 g3) (Is.lst (RdK.of tm) (g4.mono (tW g2 _)))⟩
    have ap:Apart Z (Γ.set i none) p:=λj q' z m s=>by
     rcases tJ z with⟨_,z',_⟩ | ⟨n,z'⟩
     ·cases z'
     ·exact n (r.dist j i q' (.own ds) _ z' e m rfl s h1)
    have r1:=(r.forget i).freeze g1 g2 ap;have r2:=r1.learn (i:=i) (q:=.val (.lst ds)) h1 (Is.lst (RdK.of tm) (g4.mono (tW g2 _))) (λm=>nomatch m) (λ_ z=>nomatch z);rw[Yc] at r2;exact r2
theorem ed_c{v:V}(h:PE X e (tC v))(hd:∀I,Is X.K I d v):ED X B e (ret d):=PE.imp h λZ H Q q=>by
 obtain⟨G,I,Γ,d',ae,r,e1,k⟩:=q;cases e1;exact k.now r (hd I)
theorem my{i j}:ED X B (.Constant (.int i) j pos) (ret (.int i)):=ed_c Nz λ_=>Is.int i
theorem xx{b j}:ED X B (.Constant (.bool b) j pos) (ret (.bl b)):=ed_c MO λ_=>Is.bl b
theorem uy{j}:ED X B (.Constant .none j pos) (ret .non):=ed_c Op λ_=>Is.non
theorem tK{x j}:ED X B (.Constant (.str x) j pos) (ret (.str x)):=ed_c Jw λ_=>Is.str x
noncomputable def nilA:M (List D):=ret []
noncomputable def consA(g:M D)(t:M (List D)):M (List D):=bnd g λd=>bnd t λds=>ret (d::ds)
theorem gV:AD X B [] nilA:=PA.imp wa λZ H Q q=>by
 obtain⟨G,I,Γ,d,ae,r,e1,k⟩:=q;cases e1;exact k _ _ _ r (Grow.refl _ _) IsA.nil
theorem OL{g:M D}{t:M (List D)}(ha:ED X B e g)(hr:AD X B es t)(hs:e_ (e::es) X.env=(false,eval e X.env)::e_ es X.env:=by rfl):AD X B (e::es) (consA g t):=
 PA.imp (uY ha hr hs) λZ H Q q=>by
  obtain⟨G,I,Γ,d,ae,r,e1,k⟩:=q;obtain⟨d1,Γ1,e2,e3⟩:=rK e1;obtain⟨d2,Γ2,e4,e5⟩:=rK e3;cases e5;exact⟨G,I,Γ,d1,Γ1,r,e2,λv H1 I1 r1 g1 h1=>⟨G,I1,Γ1,d2,_,r1,e4,λvs H2 I2 r2 g2 h2=>k _ _ _ r2 (g1.trans g2) (IsA.cons (h1.mono g2.up) h2)⟩⟩
noncomputable def lim:Nat:=1000000
theorem vH(h:n<=lim):n<=A_:=y_ h (by rw[Sy];decide)
noncomputable def tupA(t:M (List D)):M D:=bnd t λds=>lft (if ds.length<=lim then some (.tup ds) else none)
noncomputable def lstA(t:M (List D)):M (List D):=bnd t λds=>lft (if ds.length<=lim then some ds else none)
theorem tG{α:Type}{c:Prop}[Decidable c]{a b:α}(h:(if c then some a else none)=some b):c/\b=a:=by
 by_cases hc:c
 ·rw[if_pos hc] at h;exact⟨hc,(RY h).symm⟩
 ·rw[if_neg hc] at h;cases h
theorem tv{x1}{t:M (List D)}(h:AD X B es t):ED X B (.Tuple es x1 pos) (tupA t):=PE.imp (Qa h) λZ H Q q=>by
 obtain⟨G,I,Γ,d,ae,r,e1,k⟩:=q;obtain⟨d1,Γ1,e2,e3⟩:=rK e1;obtain⟨e4,rfl⟩:=sW e3;obtain⟨hl,rfl⟩:=tG e4;refine⟨G,I,Γ,d1,_,r,e2,λvs H1 I1 r1 g1 h1=>⟨?_,λp hp=>(k.after g1).tup r1 hp h1⟩⟩;rw[←h1.length];exact vH hl
theorem sZ{t:M (List D)}(h:AD X B es t):EO X B (.List es pos) (lstA t):=PE.imp (Lm h) λZ H Q q=>by
 obtain⟨G,I,Γ,d,ae,r,e1,k⟩:=q;obtain⟨d1,Γ1,e2,e3⟩:=rK e1;obtain⟨e4,rfl⟩:=sW e3;obtain⟨hl,rfl⟩:=tG e4;refine⟨G,I,Γ,_,_,r,e2,λvs H1 I1 r1 g1 h1=>⟨?_,λp hp=>(k.after g1).new r1 hp h1⟩⟩;rw[←h1.length];exact vH hl
def OpD(K:PySem.W.Frag)(r:R2)(F:D->D->Option D):Prop:=∀a b d,F a b=some d->∀(B:BB) (G I H:Hp) (Z:L2.St) (Γ:Gm) (x y:V) (Q:VK),Rep K B G I H Z Γ->Is K I a x->Is K I b y->KD K B G I Z Γ d Q->r x y H Q
def OpO(K:PySem.W.Frag)(r:R2)(F:D->D->Option (List D)):Prop:=∀a b d,F a b=some d->∀(B:BB) (G I H:Hp) (Z:L2.St) (Γ:Gm) (x y:V) (Q:VK),Rep K B G I H Z Γ->Is K I a x->Is K I b y->KO K B G I Z Γ d Q->r x y H Q
def CallD(K:PySem.W.Frag)(r:List V->Hp->VK->Prop)(F:List D->Option D):Prop:=∀ds d,F ds=some d->∀(B:BB) (G I H:Hp) (Z:L2.St) (Γ:Gm) (xs:List V) (Q:VK),Rep K B G I H Z Γ->IsA K I ds xs->KD K B G I Z Γ d Q->r xs H Q
def CallO(K:PySem.W.Frag)(r:List V->Hp->VK->Prop)(F:List D->Option (List D)):Prop:=∀ds d,F ds=some d->∀(B:BB) (G I H:Hp) (Z:L2.St) (Γ:Gm) (xs:List V) (Q:VK),Rep K B G I H Z Γ->IsA K I ds xs->KO K B G I Z Γ d Q->r xs H Q
noncomputable def op2{α:Type}(F:D->D->Option α)(ga gb:M D):M α:=bnd ga λx=>bnd gb λy=>lft (F x y)
noncomputable def fn1{α:Type}(F:List D->Option α)(t:M (List D)):M α:=bnd t λds=>lft (F ds)
theorem t_op{r:R2}{F:D->D->Option D}{K:PySem.W.Frag}(h:OpD K r F):∀Z H Q,tD K B (op2 F ga gb) Z H Q->tOp r (tD K B ga) (tD K B gb) Z H Q:=λZ H Q q=>by
 obtain⟨G,I,Γ,d,ae,r,e1,k⟩:=q;obtain⟨d1,Γ1,e2,e3⟩:=rK e1;obtain⟨d2,Γ2,e4,e5⟩:=rK e3;obtain⟨e6,rfl⟩:=sW e5;exact⟨G,I,Γ,d1,Γ1,r,e2,λv H1 I1 r1 g1 h1=>⟨G,I1,Γ1,d2,_,r1,e4,λw H2 I2 r2 g2 h2=>h _ _ _ e6 B G I2 H2 Z _ v w Q r2 (h1.mono g2.up) h2 (k.after (g1.trans g2))⟩⟩
theorem HH{r:R2}{F:D->D->Option (List D)}{K:PySem.W.Frag}(h:OpO K r F):∀Z H Q,tO K B (op2 F ga gb) Z H Q->tOp r (tD K B ga) (tD K B gb) Z H Q:=λZ H Q q=>by
 obtain⟨G,I,Γ,d,ae,r,e1,k⟩:=q;obtain⟨d1,Γ1,e2,e3⟩:=rK e1;obtain⟨d2,Γ2,e4,e5⟩:=rK e3;obtain⟨e6,rfl⟩:=sW e5;exact⟨G,I,Γ,d1,Γ1,r,e2,λv H1 I1 r1 g1 h1=>⟨G,I1,Γ1,d2,_,r1,e4,λw H2 I2 r2 g2 h2=>h _ _ _ e6 B G I2 H2 Z _ v w Q r2 (h1.mono g2.up) h2 (k.after (g1.trans g2))⟩⟩
theorem vT{op:Operator}{r:R2}{F:D->D->Option D}(ho:OpR X (S3 op) r)(h:OpD X.K r F)(ha:ED X B a ga)(hb:ED X B b gb):ED X B (.BinOp a op b pos) (op2 F ga gb):=PE.imp (Ei ho ha hb) (t_op h)
theorem CB{op:Operator}{r:R2}{F:D->D->Option (List D)}(ho:OpR X (S3 op) r)(h:OpO X.K r F)(ha:ED X B a ga)(hb:ED X B b gb):EO X B (.BinOp a op b pos) (op2 F ga gb):=PE.imp (Ei ho ha hb) (HH h)
theorem A7{r:R2}{F:D->D->Option D}(ho:OpR X (Se op) r)(h:OpD X.K r F)(ha:ED X B a ga)(hb:ED X B b gb)(hm:SS op b=false):ED X B (.Compare a [op] [b] pos) (op2 F ga gb):=PE.imp (Im ho ha hb hm) (t_op h)
theorem Pq{r:R2}{F:D->D->Option D}(ho:IxR X r)(h:OpD X.K r F)(ha:ED X B a ga)(hb:ED X B b gb)(hs:PlainIx b:=by exact λ_ _=>rfl):ED X B (.Subscript a b pos) (op2 F ga gb):=PE.imp (DG ho ha hb hs) (t_op h)
noncomputable def asB(d:D):Option Bool:=match d with
 | .bl b=>some b
 | _=>none
theorem Bc{b:Bool}(h:asB d=some b):d=.bl b:=by
 cases d<;>simp[asB] at h
 rw[h]
noncomputable def tst(g:M D):M Bool:=bnd g λd=>lft (asB d)
theorem B9{K:PySem.W.Frag}{g:M D}{t:TE}(ht:∀Z H Q,tD K B g Z H Q->t Z H Q):∀Z H Q,tTD K B (tst g) Z H Q->tTest t Z H Q:=λZ H Q q=>by
 obtain⟨G,I,Γ,d,ae,r,e1,k⟩:=q;obtain⟨d1,Γ1,e2,e3⟩:=rK e1;obtain⟨e4,rfl⟩:=sW e3;have:=Bc e4;subst this;exact ht _ _ _ ⟨G,I,Γ,_,_,r,e2,λv H1 I1 r1 g1 h1=>⟨d,tY h1,k _ _ r1 g1⟩⟩
theorem uZ{r:R2}{F:D->D->Option D}(ho:OpR X (Se op) r)(h:OpD X.K r F)(ha:ED X B a ga)(hb:ED X B b gb)(hm:SS op b=false):TD X B (.Compare a [op] [b] pos) (tst (op2 F ga gb)):=PT.imp (JN ho ha hb hm) (B9 (t_op h))
theorem v9(ha:ED X B a ga)(he:∀bT,XH a X.env bT=(do let v ←bT;X_ a.pos;Va [v] (truthy v)):=by intros;rfl):TD X B a (tst ga):=PT.imp (ON ha he) (B9 λ_ _ _ z=>z)
noncomputable def chn(F F':D->D->Option D)(ga gb gc:M D):M D:=bnd ga λx=>bnd gb λy=>bnd (lft (F x y)) λz=>bnd (lft (asB z)) λk=>if k then bnd gc λw=>lft (F' y w) else ret (.bl false)
theorem GE{r r':R2}{F:D->D->Option D}{K:PySem.W.Frag}(h:OpD K r F)(h':OpD K r' F'):∀Z H Q,tD K B (chn F F' ga gb gc) Z H Q->tChain r r' (tD K B ga) (tD K B gb) (tD K B gc) Z H Q:=λZ H Q q=>by
 obtain⟨G,I,Γ,d,ae,r,e1,k⟩:=q;obtain⟨d1,Γ1,e2,e3⟩:=rK e1;obtain⟨d2,Γ2,e4,e5⟩:=rK e3;obtain⟨d3,aM,e6,e7⟩:=rK e5;obtain⟨e8,rfl⟩:=sW e6;obtain⟨k1,aP,e9,f1⟩:=rK e7;obtain⟨f2,rfl⟩:=sW e9;have:=Bc f2;subst this;refine⟨G,I,Γ,d1,Γ1,r,e2,λv H1 I1 r1 g1 h1=>⟨G,I1,Γ1,d2,aP,r1,e4,λw H2 I2 r2 g2 h2=>h _ _ _ e8 B G I2 H2 Z aP v w _ r2 (h1.mono g2.up) h2 λu H3 I3 r3 g3 h3=>⟨k1,tY h3,?_⟩⟩⟩;cases k1 with
 | false=>cases f1;exact iteF (k _ _ _ r3 (g1.trans (g2.trans g3)) (Is.bl false))
 | true =>
  obtain⟨d4,eG,f3,f4⟩:=rK f1;obtain⟨f5,rfl⟩:=sW f4;exact iteT ⟨G,I3,aP,d4,_,r3,f3,λz H4 I4 r4 g4 h4=>h' _ _ _ f5 B G I4 H4 Z _ w z Q r4 (h2.mono (g3.trans g4).up) h4 (k.after (g1.trans (g2.trans (g3.trans g4))))⟩
theorem HJ{r r':R2}{F:D->D->Option D}(ho:OpR X (Se op) r)(h:OpD X.K r F)(cn:OpR X (Se cq) r')(h':OpD X.K r' F')(ha:ED X B a ga)(hb:ED X B b gb)(hc:ED X B c gc)(hm:VM [op,cq] [b,c]=false:=by with_unfolding_all rfl):ED X B (.Compare a [op,cq] [b,c] pos) (chn F F' ga gb gc):=PE.imp (MH ho cn ha hb hc hm) (GE h h')
theorem HP{r r':R2}{F:D->D->Option D}(ho:OpR X (Se op) r)(h:OpD X.K r F)(cn:OpR X (Se cq) r')(h':OpD X.K r' F')(ha:ED X B a ga)(hb:ED X B b gb)(hc:ED X B c gc)(hm:VM [op,cq] [b,c]=false:=by with_unfolding_all rfl):TD X B (.Compare a [op,cq] [b,c] pos) (tst (chn F F' ga gb gc)):=PT.imp (Pf ho cn ha hb hc hm) (B9 (GE h h'))
noncomputable def andT(a b:M Bool):M Bool:=bnd a λk=>if k then b else ret false
noncomputable def orT(a b:M Bool):M Bool:=bnd a λk=>if k then ret true else b
noncomputable def notT(a:M Bool):M Bool:=bnd a λk=>ret (!k)
noncomputable def andV(a b:M D):M D:=bnd a λd=>bnd (lft (asB d)) λk=>if k then b else ret (.bl false)
noncomputable def ifV(c:M Bool)(a b:M D):M D:=bnd c λk=>if k then a else b
variable{ta tb:M Bool}
theorem wy(ha:TD X B a ta):TW X B (.BoolOp .And [a] pos) ta:=NG ha
theorem xf(ha:TD X B a ta):TW X B (.BoolOp .Or [a] pos) ta:=OZ ha
theorem wm(ha:TD X B a ta)(hb:TW X B (.BoolOp .And (b::ao) pos) tb):TW X B (.BoolOp .And (a::b::ao) pos) (andT ta tb):=PW.imp (Jh ha hb) λZ H Q q=>by
 obtain⟨G,I,Γ,d,ae,r,e1,k⟩:=q;obtain⟨d1,Γ1,e2,e3⟩:=rK e1;refine⟨G,I,Γ,d1,Γ1,r,e2,λH1 I1 r1 g1=>?_⟩;cases d1 with
 | true=>exact iteT ⟨G,I1,Γ1,d,ae,r1,e3,k.after g1⟩
 | false=>cases e3;exact iteF (k _ _ r1 g1)
theorem wG(ha:TD X B a ta)(hb:TW X B (.BoolOp .Or (b::ao) pos) tb):TW X B (.BoolOp .Or (a::b::ao) pos) (orT ta tb):=PW.imp (Po ha hb) λZ H Q q=>by
 obtain⟨G,I,Γ,d,ae,r,e1,k⟩:=q;obtain⟨d1,Γ1,e2,e3⟩:=rK e1;refine⟨G,I,Γ,d1,Γ1,r,e2,λH1 I1 r1 g1=>?_⟩;cases d1 with
 | false=>exact iteF ⟨G,I1,Γ1,d,ae,r1,e3,k.after g1⟩
 | true=>cases e3;exact iteT (k _ _ r1 g1)
theorem TW.td(h:TW X B e ta):TD X B e ta:=h _
theorem vq(ha:TD X B a ta):TD X B (.UnaryOp .Not a pos) (notT ta):=PT.imp (Pi ha) λZ H Q q=>by
 obtain⟨G,I,Γ,d,ae,r,e1,k⟩:=q;obtain⟨d1,Γ1,e2,e3⟩:=rK e1;cases e3;exact⟨G,I,Γ,d1,_,r,e2,λH1 I1 r1 g1=>k _ _ r1 g1⟩
theorem DZ{op}(h:ED X B a ga):ED X B (.BoolOp op [a] pos) ga:=HI h
theorem Cu(ha:ED X B a ga)(hb:ED X B (.BoolOp .And (b::ao) pos) gb):ED X B (.BoolOp .And (a::b::ao) pos) (andV ga gb):=PE.imp (Lf ha hb) λZ H Q q=>by
 obtain⟨G,I,Γ,d,ae,r,e1,k⟩:=q;obtain⟨d1,Γ1,e2,e3⟩:=rK e1;obtain⟨k1,Γ2,e4,e5⟩:=rK e3;obtain⟨e6,rfl⟩:=sW e4;have:=Bc e6;subst this;refine⟨G,I,Γ,_,_,r,e2,λv H1 I1 r1 g1 h1=>⟨k1,tY h1,?_⟩⟩;cases k1 with
 | true=>exact iteT ⟨G,I1,_,d,ae,r1,e5,k.after g1⟩
 | false=>cases e5;exact iteF (k _ _ _ r1 g1 (Is.bl false))
theorem Bx(hc:TD X B c ta)(ha:ED X B a ga)(hb:ED X B b gb):ED X B (.IfExp c a b pos) (ifV ta ga gb):=PE.imp (LX hc ha hb) λZ H Q q=>by
 obtain⟨G,I,Γ,d,ae,r,e1,k⟩:=q;obtain⟨d1,Γ1,e2,e3⟩:=rK e1;refine⟨G,I,Γ,d1,Γ1,r,e2,λH1 I1 r1 g1=>?_⟩;cases d1 with
 | true=>exact iteT ⟨G,I1,Γ1,d,ae,r1,e3,k.after g1⟩
 | false=>exact iteF ⟨G,I1,Γ1,d,ae,r1,e3,k.after g1⟩
variable {x:Str}{p:Pos}{id T:String}{r:List V->Hp->VK->Prop}{t:M (List D)}
theorem t_fn{F:List D->Option D}{K:PySem.W.Frag}(h:CallD K r F):∀Z H Q,tD K B (fn1 F t) Z H Q->tCB r (tAD K B t) Z H Q:=λZ H Q q=>by
 obtain⟨G,I,Γ,d,ae,r,e1,k⟩:=q;obtain⟨d1,Γ1,e2,e3⟩:=rK e1;obtain⟨e4,rfl⟩:=sW e3;exact⟨G,I,Γ,d1,_,r,e2,λvs H1 I1 r1 g1 h1=>h _ _ e4 B G I1 H1 Z _ vs Q r1 h1 (k.after g1)⟩
theorem AO{K:PySem.W.Frag}(h:CallO K r F):∀Z H Q,tO K B (fn1 F t) Z H Q->tCB r (tAD K B t) Z H Q:=λZ H Q q=>by
 obtain⟨G,I,Γ,d,ae,r,e1,k⟩:=q;obtain⟨d1,Γ1,e2,e3⟩:=rK e1;obtain⟨e4,rfl⟩:=sW e3;exact⟨G,I,Γ,d1,_,r,e2,λvs H1 I1 r1 g1 h1=>h _ _ e4 B G I1 H1 Z _ vs Q r1 h1 (k.after g1)⟩
theorem wo{F:List D->Option D}(hc:CallR X (.builtin id) r)(h:CallD X.K r F)(hg:Gl X x)(hm:X.mg x=none)(hv:SR x=some (.builtin id))(ha:AD X B (e::es) t)(hn:x ≠ "__name__":=by decide)(bC:(x == ("__debug__":Str))=false:=by decide)(he:e_ (e::es) X.env=(false,eval e X.env)::e_ es X.env:=by rfl)(aC:(R4 pos (e_ es X.env)).any (·.1)=false:=by rfl):ED X B (.Call (.Name x p) (e::es) [] pos) (fn1 F t):=PE.imp (w6 hc hg hm hv ha hn bC he aC) (t_fn h)
theorem ML(hc:CallR X (.builtin id) r)(h:CallO X.K r F)(hg:Gl X x)(hm:X.mg x=none)(hv:SR x=some (.builtin id))(ha:AD X B (e::es) t)(hn:x ≠ "__name__":=by decide)(bC:(x == ("__debug__":Str))=false:=by decide)(he:e_ (e::es) X.env=(false,eval e X.env)::e_ es X.env:=by rfl)(aC:(R4 pos (e_ es X.env)).any (·.1)=false:=by rfl):EO X B (.Call (.Name x p) (e::es) [] pos) (fn1 F t):=PE.imp (w6 hc hg hm hv ha hn bC he aC) (AO h)
theorem Hm{F:List D->Option D}(hc:CallR X (.type T) r)(h:CallD X.K r F)(hg:Gl X x)(hm:X.mg x=none)(hv:SR x=some (.type T))(ha:AD X B (e::es) t)(hn:x ≠ "__name__":=by decide)(bC:(x == ("__debug__":Str))=false:=by decide)(he:e_ (e::es) X.env=(false,eval e X.env)::e_ es X.env:=by rfl)(aC:(R4 pos (e_ es X.env)).any (·.1)=false:=by rfl):ED X B (.Call (.Name x p) (e::es) [] pos) (fn1 F t):=PE.imp (FV hc hg hm hv ha hn bC he aC) (t_fn h)
theorem Pp(hc:CallR X (.type T) r)(h:CallO X.K r F)(hg:Gl X x)(hm:X.mg x=none)(hv:SR x=some (.type T))(ha:AD X B (e::es) t)(hn:x ≠ "__name__":=by decide)(bC:(x == ("__debug__":Str))=false:=by decide)(he:e_ (e::es) X.env=(false,eval e X.env)::e_ es X.env:=by rfl)(aC:(R4 pos (e_ es X.env)).any (·.1)=false:=by rfl):EO X B (.Call (.Name x p) (e::es) [] pos) (fn1 F t):=PE.imp (FV hc hg hm hv ha hn bC he aC) (AO h)
end
inductive Fl where
 | nx | rt (r:R) | bk | ct
def ResOk(K:PySem.W.Frag)(G I H:Hp)(Z:L2.St)(Γ:Gm):R->V->Prop
 | .val d,v=>Is K I d v
 | .own ds,v=>∃p xs,v=.ref p/\H p=some (.lst xs)/\I p=none/\G p=none/\Apart Z Γ p/\IsA K I ds xs
 | .bor _,_=>False
 | .fro ds,v=>∃p xs,v=.ref p/\I p=some (.lst xs)/\G p=none/\IsA K I ds xs
 | .dic aY,v=>∃p xs,v=.ref p/\H p=some (.dK xs)/\I p=none/\G p=none/\Apart Z Γ p/\IsK K I aY xs
def EndAt(K:PySem.W.Frag)(G I H:Hp)(Z:L2.St)(Γ:Gm)(E:Ends):Fl->Prop
 | .nx=>E.nx Z H
 | .bk=>E.bk Z H
 | .ct=>E.ct Z H
 | .rt r=>∀v,ResOk K G I H Z Γ r v->E.rt v H
section
variable (K:PySem.W.Frag)(B:BB)
def KS(G I:Hp)(ae:Gm)(f:Fl)(E:Ends):Prop:=∀ah H' I',Rep K B G I' H' ah ae->Grow G I I'->EndAt K G I' H' ah ae E f
noncomputable def tS(g:M Fl):TS:=λE Z H=>∃G I Γ f ae,Rep K B G I H Z Γ/\g Γ=some (f,ae)/\KS K B G I ae f E
def KG(m:Nat)(Z:L2.St)(G I:Hp)(ae:Gm)(Q:L2.St->Hp->Prop):Prop:=∀ah H' I',Rep K B G I' H' ah ae->Grow G I I'->ah.drop m=Z.drop m->Q ah H'
noncomputable def tGD(m:Nat)(f:D->M Unit):TG:=λv Z H Q=>∃G I Γ d ae,Rep K B G I H Z Γ/\Is K I d v/\f d Γ=some ((),ae)/\KG K B m Z G I ae Q
noncomputable def tGs(m:Nat)(f:List D->M Unit):TGs:=λvs Z H Q=>∃G I Γ ds ae,Rep K B G I H Z Γ/\IsA K I ds vs/\f ds Γ=some ((),ae)/\KG K B m Z G I ae Q
end
def SD(X:Cx)(B:BB)(st:Sb)(g:M Fl):Prop:=PS X st (tS X.K B g)
def SDs(X:Cx)(B:BB)(st:List Sb)(g:M Fl):Prop:=PSs X st (tS X.K B g)
def GD(X:Cx)(B:BB)(m:Nat)(tg:RW)(f:D->M Unit):Prop:=PG X tg (tGD X.K B m f)
def GDs(X:Cx)(B:BB)(m:Nat)(iX:List RW)(f:List D->M Unit):Prop:=PGs X iX (tGs X.K B m f)
section
theorem PS.imp{st:Sb}{t t':TS}(h:PS X st t)(f:∀E Z H,t' E Z H->t E Z H):PS X st t':=λaa s Z H E I q=>h aa s Z H E I (f E Z H q)
theorem PSs.imp{st:List Sb}{t t':TS}(h:PSs X st t)(f:∀E Z H,t' E Z H->t E Z H):PSs X st t':=λaa s Z H E I q=>h aa s Z H E I (f E Z H q)
theorem PG.imp{t t':TG}(h:PG X tg t)(f:∀v Z H Q,t' v Z H Q->t v Z H Q):PG X tg t':=λaa s Z H v u Q I r q=>h aa s Z H v u Q I r (f v Z H Q q)
theorem PGs.imp{t t':TGs}(h:PGs X iX t)(f:∀v Z H Q,t' v Z H Q->t v Z H Q):PGs X iX t':=λaa s Z H v u Q I r q=>h aa s Z H v u Q I r (f v Z H Q q)
theorem PI.imp{iter:RW}{t t':TI}(h:PI X tg iter t)(f:∀Z H Q,t' Z H Q->t Z H Q):PI X tg iter t':=λaa s Z H R I q=>h aa s Z H R I (f Z H R q)
end
section
variable{K:PySem.W.Frag}{B:BB}{I1 H:Hp}{f:Fl}{E:Ends}
theorem KS.after(k:KS K B G I ae f E)(g:Grow G I I1):KS K B G I1 ae f E:=λah H' I' r g'=>k ah H' I' r (g.trans g')
theorem KG.after{dJ:L2.St}{Q:L2.St->Hp->Prop}(k:KG K B m Z G I ae Q)(g:Grow G I I1)(hs:dJ.drop m=Z.drop m):KG K B m dJ G I1 ae Q:=λah H' I' r g' z=>k ah H' I' r (g.trans g') (z.trans hs)
end
section
variable{B:BB}{a b c:RW}{es:List RW}{ga gb gc:M D}{st:Sb}{ao:List Sb}{g h:M Fl}
noncomputable def seqS(g h:M Fl):M Fl:=bnd g λf=>match f with
 | .nx=>h
 | .rt r=>ret (.rt r)
 | .bk=>ret .bk
 | .ct=>ret .ct
theorem NK:SDs X B [] (ret .nx):=PSs.imp Mb λE Z H q=>by
 obtain⟨G,I,Γ,f,ae,r,e1,k⟩:=q;cases e1;exact k Z H I r (Grow.refl _ _)
theorem GH(h:SD X B st g):SDs X B [st] g:=D' h
theorem JJ(h1:SD X B st g)(h2:SDs X B ao h):SDs X B (st::ao) (seqS g h):=PSs.imp (Cj h1 h2) λE Z H q=>by
 obtain⟨G,I,Γ,f,ae,r,e1,k⟩:=q;obtain⟨f1,Γ1,e2,e3⟩:=rK e1;refine⟨G,I,Γ,f1,Γ1,r,e2,λdJ H1 I1 r1 g1=>?_⟩;cases f1 with
 | nx=>exact⟨G,I1,Γ1,f,ae,r1,e3,k.after g1⟩
 | bk=>cases e3;exact k dJ H1 I1 r1 g1
 | ct=>cases e3;exact k dJ H1 I1 r1 g1
 | rt v=>cases e3;exact k dJ H1 I1 r1 g1
theorem wu:SD X B st (λ_=>none):=PS.imp IW λE Z H q=>by
 obtain⟨G,I,Γ,f,ae,r,e1,k⟩:=q;cases e1
noncomputable def dropS(g:M D):M Fl:=bnd g λ_=>ret .nx
theorem tz(he:ED X B e ga)(hs:SK e none pos.line X.env=pure false:=by rfl):SD X B (.Expr e pos) (dropS ga):=PS.imp (zL he hs) λE Z H q=>by
 obtain⟨G,I,Γ,f,ae,r,e1,k⟩:=q;obtain⟨d1,Γ1,e2,e3⟩:=rK e1;cases e3;exact⟨G,I,Γ,d1,_,r,e2,λv H1 I1 r1 g1 h1=>k Z H1 I1 r1 g1⟩
noncomputable def retS(g:M D):M Fl:=bnd g λd=>ret (.rt (.val d))
theorem sV(he:ED X B e ga):SD X B (.Return (some e) pos) (retS ga):=PS.imp (y9 he) λE Z H q=>by
 obtain⟨G,I,Γ,f,ae,r,e1,k⟩:=q;obtain⟨d1,Γ1,e2,e3⟩:=rK e1;cases e3;exact⟨G,I,Γ,d1,_,r,e2,λv H1 I1 r1 g1 h1=>k Z H1 I1 r1 g1 v h1⟩
noncomputable def retO(g:M (List D)):M Fl:=bnd g λd=>ret (.rt (.own d))
theorem ue{g:M (List D)}(he:EO X B e g):SD X B (.Return (some e) pos) (retO g):=PS.imp (y9 he) λE Z H q=>by
 obtain⟨G,I,Γ,f,ae,r,e1,k⟩:=q;obtain⟨d1,Γ1,e2,e3⟩:=rK e1;cases e3;exact⟨G,I,Γ,d1,_,r,e2,λp xs H1 I1 r1 g1 h1 h2 h3 h4 h5=>k Z H1 I1 r1 g1 _ ⟨p,xs,rfl,h1,h2,h3,h4,h5⟩⟩
noncomputable def ifS(c:M Bool)(a b:M Fl):M Fl:=bnd c λk=>if k then a else b
theorem N2{tc:M Bool}(hc:TD X B c tc)(ha:SDs X B sa g)(hb:SDs X B sb h):SD X B (.If c sa sb pos) (ifS tc g h):=PS.imp (Dk hc ha hb) λE Z H q=>by
 obtain⟨G,I,Γ,f,ae,r,e1,k⟩:=q;obtain⟨d1,Γ1,e2,e3⟩:=rK e1;refine⟨G,I,Γ,d1,Γ1,r,e2,λH1 I1 r1 g1=>?_⟩;cases d1 with
 | true=>exact iteT ⟨G,I1,Γ1,f,ae,r1,e3,k.after g1⟩
 | false=>exact iteF ⟨G,I1,Γ1,f,ae,r1,e3,k.after g1⟩
noncomputable def putS(i:Nat)(q:R):M Unit:=λΓ=>if i < Γ.length then some ((),Γ.set i (some q)) else none
noncomputable def tgN(i:Nat)(d:D):M Unit:=putS i (.val d)
theorem vy{q:R}{u:Unit}(h:putS i q Γ=some (u,ae)):i < Γ.length/\ae=Γ.set i (some q):=by
 unfold putS at h;obtain⟨h1,h2⟩:=tG h;cases h2;exact⟨h1,rfl⟩
theorem EV{α:Type}:∀{l:List α}{i m:Nat}{a:α},i < m->(l.set i a).drop m=l.drop m
 | [],_,_,_,_=>rfl
 | _::_,0,m+1,_,_=>rfl
 | _::r,i+1,m+1,a,h=>by
  rw[List.set_cons_succ,Vm,Vm];exact EV (Nat.lt_of_succ_lt_succ h)
theorem gd_n{x:Str}(hN:X.N.Nodup)(hi:X.N[i]?=some x:=by rfl)(hx:locB X.env.scope x=true:=by rfl)(hf:fnB X x=true:=by rfl)(oY:i < m:=by decide):GD X B m (.Name x pos) (tgN i):=
 PG.imp (LY hN hi (locI hx) (fnI hf)) λv Z H Q q=>by
  obtain⟨G,I,Γ,d,ae,r,hd,e1,k⟩:=q;obtain⟨hl,rfl⟩:=vy e1;exact k _ _ I (r.store (by rw[r.len];exact hl) hd (λm=>nomatch m) (λ_ z=>nomatch z)) (Grow.refl _ _) (EV oY)
noncomputable def tgNil(ds:List D):M Unit:=match ds with
 | []=>ret ()
 | _=>λ_=>none
noncomputable def tgCons(f:D->M Unit)(t:List D->M Unit)(ds:List D):M Unit:=match ds with
 | d::r=>bnd (f d) λ_=>t r
 | []=>λ_=>none
theorem uI:GDs X B m [] tgNil:=PGs.imp Pv λv Z H Q q=>by
 obtain⟨G,I,Γ,ds,ae,r,hd,e1,k⟩:=q;cases ds with
 | nil=>cases e1;exact⟨hd.nil_inv,k _ _ I r (Grow.refl _ _) rfl⟩
 | cons d t=>cases e1
theorem tQ{f:D->M Unit}{t:List D->M Unit}(h1:GD X B m e f)(h2:GDs X B m es t)(hs:(SZ (e::es) X.env).map (·.2)=Vj e X.env::(SZ es X.env).map (·.2):=by rfl):GDs X B m (e::es) (tgCons f t):=PGs.imp (OG h1 h2 hs) λv Z H Q q=>by
 obtain⟨G,I,Γ,ds,ae,r,hd,e1,k⟩:=q;cases ds with
 | nil=>cases e1
 | cons d t =>
  obtain⟨x,xs,rfl,h1,h2⟩:=hd.cons_inv;obtain⟨u,Γ1,e2,e3⟩:=rK e1;exact⟨x,xs,rfl,G,I,Γ,d,Γ1,r,h1,e2,λdJ H1 I1 r1 g1 z=>⟨G,I1,Γ1,t,ae,r1,h2.mono g1.up,e3,k.after g1 z⟩⟩
noncomputable def tgTup(n:Nat)(t:List D->M Unit)(d:D):M Unit:=match d with
 | .tup ds=>if ds.length=n then t ds else λ_=>none
 | _=>λ_=>none
theorem uF{t:List D->M Unit}(hc:X.calm=true)(h:GDs X B m es t)(hn:(SZ es X.env).length=n:=by rfl)(gw:(SZ es X.env).findIdx? (·.1)=none:=by rfl):GD X B m (.Tuple es k pos) (tgTup n t):=
 PG.imp (P4 hc h hn gw) λv Z H Q q=>by
  obtain⟨G,I,Γ,d,ae,r,hd,e1,k⟩:=q;cases d with
  | tup ds =>
   obtain⟨a,xs,rfl,h1,h2⟩:=sY hd;unfold tgTup at e1;by_cases hl:ds.length=n
   ·simp only[hl,if_true] at e1;exact⟨a,xs,rfl,Same.sqT r.iH h1,by rw[←h2.length];exact hl,G,I,Γ,ds,ae,r,h2,e1,k⟩
   ·simp only[hl,if_false] at e1;cases e1
  | _=>cases e1
noncomputable def asgS(g:M D)(f:D->M Unit):M Fl:=bnd g λd=>bnd (f d) λ_=>ret .nx
theorem J7{f:D->M Unit}(he:ED X B e ga)(hg:GD X B m tg f)(hs:WL [tg] e pos.line X.env=pure false:=by rfl)(hw:WM [tg] e X.env=pure none:=by rfl)(h1:(SZ [tg] X.env).map (·.2)=[Vj tg X.env]:=by rfl):SD X B (.Assign [tg] e pos) (asgS ga f):=PS.imp (CC he hg hs hw h1) λE Z H q=>by
 obtain⟨G,I,Γ,f,ae,r,e1,k⟩:=q;obtain⟨d1,Γ1,e2,e3⟩:=rK e1;obtain⟨d2,Γ2,e4,e5⟩:=rK e3;cases e5;exact⟨G,I,Γ,d1,Γ1,r,e2,λv H1 I1 r1 g1 h1=>⟨G,I1,Γ1,d1,_,r1,h1,e4,λaS H2 I2 r2 g2 _=>k aS H2 I2 r2 (g1.trans g2)⟩⟩
noncomputable def setV(i:Nat)(g:M D):M Fl:=bnd g λd=>bnd (putS i (.val d)) λ_=>ret .nx
noncomputable def setO(i:Nat)(g:M (List D)):M Fl:=bnd g λd=>bnd (putS i (.own d)) λ_=>ret .nx
theorem N8{K:PySem.W.Frag}:∀E Z H,tS K B (setV i ga) E Z H->tAsg (tD K B ga) (gName i) E Z H:=λE Z H q=>by
 obtain⟨G,I,Γ,f,ae,r,e1,k⟩:=q;obtain⟨d1,Γ1,e2,e3⟩:=rK e1;obtain⟨d2,Γ2,e4,e5⟩:=rK e3;cases e5;obtain⟨hl,rfl⟩:=vy e4;exact⟨G,I,Γ,d1,Γ1,r,e2,λv H1 I1 r1 g1 h1=>k _ H1 I1 (r1.store (by rw[r1.len];exact hl) h1 (λm=>nomatch m) (λ_ z=>nomatch z)) g1⟩
theorem K8{K:PySem.W.Frag}{g:M (List D)}:∀E Z H,tS K B (setO i g) E Z H->tAsg (tO K B g) (gName i) E Z H:=λE Z H q=>by
 obtain⟨G,I,Γ,f,ae,r,e1,k⟩:=q;obtain⟨d1,Γ1,e2,e3⟩:=rK e1;obtain⟨d2,Γ2,e4,e5⟩:=rK e3;cases e5;obtain⟨hl,rfl⟩:=vy e4;exact⟨G,I,Γ,d1,Γ1,r,e2,λp xs H1 I1 r1 g1 h1 h2 h3 h4 h5=>k _ H1 I1 (r1.store (by rw[r1.len];exact hl) ⟨p,xs,rfl,h1,h2,h3,h5⟩ (λ_ p' z=>by cases z;exact h4) (λ_ z=>nomatch z)) g1⟩
theorem ES{x:Str}(hN:X.N.Nodup)(he:ED X B e ga)(hi:X.N[i]?=some x:=by rfl)(hx:locB X.env.scope x=true:=by rfl)(hs:SK e (some (.Name x aE)) pos.line X.env=pure false:=by rfl)(hf:fnB X x=true:=by rfl):SD X B (.Assign [.Name x aE] e pos) (setV i ga):=PS.imp (xj hN hi (locI hx) he hs (fnI hf)) N8
theorem uU{x:Str}{g:M (List D)}(hN:X.N.Nodup)(he:EO X B e g)(hi:X.N[i]?=some x:=by rfl)(hx:locB X.env.scope x=true:=by rfl)(hs:SK e (some (.Name x aE)) pos.line X.env=pure false:=by rfl)(hf:fnB X x=true:=by rfl):SD X B (.Assign [.Name x aE] e pos) (setO i g):=PS.imp (xj hN hi (locI hx) he hs (fnI hf)) K8
noncomputable def isMut(Γ:Gm)(i:Nat):Bool:=match Γ[i]? with
 | some (some r)=>r.mut
 | _=>false
noncomputable def wr(i:Nat)(F:List D->Option (List D)):M Unit:=λΓ=>match Γ[i]? with
 | some (some (.own ds))=>match F ds with
  | some es=>some ((),Γ.set i (some (.own es)))
  | none=>none
 | some (some (.bor ds))=>match F ds with
  | some es=>some ((),Γ.set i (some (.bor es)))
  | none=>none
 | _=>none
theorem vU{K:PySem.W.Frag}{H:Hp}(h:isMut Γ i=true)(r:Rep K B G I H Z Γ):∃p xs,Z[i]?=some (some (.ref p))/\H p=some (.lst xs):=by
 unfold isMut at h;cases e:Γ[i]? with
 | none=>rw[e] at h;cases h
 | some o =>
  cases o with
  | none=>rw[e] at h;cases h
  | some q =>
   rw[e] at h;obtain⟨v,h1,h2⟩:=r.slot i q e;cases q with
   | val d=>cases h
   | fro d=>cases h
   | dic d=>cases h
   | own d=>obtain⟨p,xs,rfl,h3,_⟩:=h2;exact⟨p,xs,h1,h3⟩
   | bor d=>obtain⟨p,xs,rfl,h3,_⟩:=h2;exact⟨p,xs,h1,h3⟩
theorem yh{K:PySem.W.Frag}{H:Hp}{u:Unit}(h:wr i F Γ=some (u,ae))(r:Rep K B G I H Z Γ):
  ∃p xs ds es,Z[i]?=some (some (.ref p))/\H p=some (.lst xs)/\IsA K I ds xs/\F ds=some es/\∀ys,IsA K I es ys->Rep K B G I (upd H p (.lst ys)) Z ae:=by
 unfold wr at h;cases e:Γ[i]? with
 | none=>rw[e] at h;cases h
 | some o =>
  cases o with
  | none=>rw[e] at h;cases h
  | some q =>
   obtain⟨v,h1,h2⟩:=r.slot i q e;cases q with
   | val d=>rw[e] at h;cases h
   | fro d=>rw[e] at h;cases h
   | dic d=>rw[e] at h;cases h
   | own ds =>
    rw[e] at h;obtain⟨p,xs,rfl,g1,g2,g3,g4⟩:=h2;cases hf:F ds with
    | none=>simp only[hf] at h;cases h
    | some es =>
     simp only[hf] at h;cases h;exact⟨p,xs,ds,es,h1,g1,g4,hf,λys hy=>r.write e rfl h1 g1 (.inl rfl) hy⟩
   | bor ds =>
    rw[e] at h;obtain⟨p,xs,rfl,g1,g2,g3,g4⟩:=h2;cases hf:F ds with
    | none=>simp only[hf] at h;cases h
    | some es =>
     simp only[hf] at h;cases h;exact⟨p,xs,ds,es,h1,g1,g4,hf,λys hy=>r.write e rfl h1 g1 (.inr ⟨rfl,ds,rfl⟩) hy⟩
noncomputable def mutS{α:Type}(i:Nat)(m:M α):M α:=λΓ=>if isMut Γ i then m Γ else none
theorem wA{α:Type}{m:M α}{r:α×Gm}(h:mutS i m Γ=some r):isMut Γ i=true/\m Γ=some r:=by
 unfold mutS at h;by_cases hc:isMut Γ i=true
 ·rw[if_pos hc] at h;exact⟨hc,h⟩
 ·rw[if_neg hc] at h;cases h
noncomputable def appF(d:D)(ds:List D):Option (List D):=if ds.length < lim then some (ds++[d]) else none
noncomputable def extF(d:D)(ds:List D):Option (List D):=match d with
 | .lst es=>if ds.length+es.length<=lim then some (ds++es) else none
 | _=>none
noncomputable def appS(i:Nat)(g:M D):M Fl:=mutS i (bnd g λd=>bnd (wr i (appF d)) λ_=>ret .nx)
noncomputable def extS(i:Nat)(g:M D):M Fl:=mutS i (bnd g λd=>bnd (wr i (extF d)) λ_=>ret .nx)
theorem zA{H:Hp}{s:c_}{l:i_}(I:Inv X aa Z H s)(hH:RdK X.K H l xs):xs.length<=A_/\∃(ac:List b_) (n:Nat),Vals xs ac/\xs.length=ac.length/\s.heap.get? l=some { cls:=.type "list", data:=.seq ac.toArray n }:=by
 rcases hH with hH | ⟨ac,n,h1,h2,h3⟩
 ·obtain⟨z,ac,n,r,e⟩:=hH.ok I.hok;exact⟨z,ac,n,r,r.length,e⟩
 ·exact⟨by rw[h2.length];exact h3,ac,n,h2,h2.length,I.kIn l _ h1⟩
def rExtendR(K:PySem.W.Frag):V->List V->Hp->VK->Prop:=λx vs H Q=>∃l b xs zs,x=.ref l/\vs=[.ref b]/\H l=some (.lst xs)/\RdK K H b zs/\xs.length+zs.length<=A_/\Q .non (upd H l (.lst (xs++zs)))
theorem Nb:MtM X "list.extend" (rExtendR X.K):=by
 intro aa s Z H x vs v us Q I rx rv h;obtain⟨l,b,xs,zs,rfl,rfl,hH,hB,hz,q⟩:=h;cases rx;obtain⟨u,rfl,ru⟩:=rv.one;cases ru;obtain⟨z,ac,n,r,hl,e⟩:=I.lstM hH;obtain⟨z2,ck,n2,r2,eH,e2⟩:=zA I hB;have dM:ac.toArray.size+ck.toArray.size<=A_:=by rw[p_,p_];omega
 have kB:¬(!ac.toArray.isEmpty&&Wk (ac.toArray.size+ck.toArray.size))=true:=by
  rw[notLongL dM,Wm];exact l_
 refine UO F.slot_list_extend ⟨_,e,rfl⟩ F.entry_list_extend (F.args_list_extend_2 _ _)
  (AutoSeq1.list_extend_list_list_0 l ac.toArray n b ck.toArray n2 kB (by rw[p_];omega) (by omega)) ⟨e,e2,?_⟩
 refine⟨.non,_,I.lset (its':=ac++ck) hH e (by simp) (r.append r2) ?_,rfl,q⟩;rw[v_];omega
theorem vZ{x:Str}(hv:PE X (.Name x p1) (tVar i))(ha:ED X B e ga)(hs:SK (.Call (.Attribute (.Name x p1) "append" aU) [e] [] aB) none pos.line X.env=pure false:=by rfl)(fe:e_ [e] X.env=(false,eval e X.env)::e_ [] X.env:=by rfl)(bJ:TZ (.Name x p1) "append" X.env (eval (.Name x p1) X.env)=eval (.Name x p1) X.env:=by rfl)(cb:((R4 aB (e_ [e] X.env)).all (λx=>!x.1)&&(Wi aB (UX [] X.env)).all (λx=>x.1.isSome)
   &&decide ([e].length+([]:List Ux).length+(if([]:List Ux).isEmpty then 0 else 1) < 30))=true:=by rfl)(bK:(aU.endLine == aB.line)=true:=by rfl)(bn:(R4 aB (e_ [] X.env)).any (·.1)=false:=by rfl):
  SD X B (.Expr (.Call (.Attribute (.Name x p1) "append" aU) [e] [] aB) pos) (appS i ga):=
 PS.imp (zL (wN Ua PySem.F.slot_list_append PySem.F.type_list_append DA hv (uY ha wa fe) bJ cb bK fe bn) hs) λE Z H q=>by
  obtain⟨G,I,Γ,f,ae,r,e1,k⟩:=q;obtain⟨hm,e1⟩:=wA e1;obtain⟨d1,Γ1,e2,e3⟩:=rK e1;obtain⟨d2,Γ2,e4,e5⟩:=rK e3;cases e5;obtain⟨p,xs,h1,h2⟩:=vU hm r;refine⟨_,h1,.inl ⟨rfl,xs,SqL.of h2⟩,G,I,Γ,d1,Γ1,r,e2,λv H1 I1 r1 g1 hd=>?_⟩;obtain⟨p',bV,ds,es,h3,h4,h5,h6,h7⟩:=yh e4 r1;have hp:p'=p:=by rw[h1] at h3;cases h3;rfl
  subst hp;obtain⟨hl,rfl⟩:=tG h6;refine⟨p',bV,v,rfl,rfl,h4,?_,k Z _ I1 (h7 _ (IsA.append h5 (IsA.cons hd IsA.nil))) g1⟩;rw[←h5.length];exact K_ hl (vH (w_ _))
theorem AF{x:Str}(hv:PE X (.Name x p1) (tVar i))(ha:ED X B e ga)(hs:SK (.Call (.Attribute (.Name x p1) "extend" aU) [e] [] aB) none pos.line X.env=pure false:=by rfl)(fe:e_ [e] X.env=(false,eval e X.env)::e_ [] X.env:=by rfl)(bJ:TZ (.Name x p1) "extend" X.env (eval (.Name x p1) X.env)=eval (.Name x p1) X.env:=by rfl)(cb:((R4 aB (e_ [e] X.env)).all (λx=>!x.1)&&(Wi aB (UX [] X.env)).all (λx=>x.1.isSome)
   &&decide ([e].length+([]:List Ux).length+(if([]:List Ux).isEmpty then 0 else 1) < 30))=true:=by rfl)(bK:(aU.endLine == aB.line)=true:=by rfl)(bn:(R4 aB (e_ [] X.env)).any (·.1)=false:=by rfl):
  SD X B (.Expr (.Call (.Attribute (.Name x p1) "extend" aU) [e] [] aB) pos) (extS i ga):=
 PS.imp (zL (wN Ua PySem.F.slot_list_extend PySem.F.type_list_extend Nb hv (uY ha wa fe) bJ cb bK fe bn) hs) λE Z H q=>by
  obtain⟨G,I,Γ,f,ae,r,e1,k⟩:=q;obtain⟨hm,e1⟩:=wA e1;obtain⟨d1,Γ1,e2,e3⟩:=rK e1;obtain⟨d2,Γ2,e4,e5⟩:=rK e3;cases e5;obtain⟨p,xs,h1,h2⟩:=vU hm r;refine⟨_,h1,.inl ⟨rfl,xs,SqL.of h2⟩,G,I,Γ,d1,Γ1,r,e2,λv H1 I1 r1 g1 hd=>?_⟩;obtain⟨p',bV,ds,es,h3,h4,h5,h6,h7⟩:=yh e4 r1;have hp:p'=p:=by rw[h1] at h3;cases h3;rfl
  subst hp;cases d1 with
  | lst zs =>
   obtain⟨a,ys,rfl,i1,i2⟩:=sU hd;obtain⟨hl,rfl⟩:=tG h6;refine⟨p',a,bV,ys,rfl,rfl,h4,Same.rdK r1.iH i1,?_,k Z _ I1 (h7 _ (IsA.append h5 i2)) g1⟩;rw[←h5.length,←i2.length];exact vH hl
  | _=>cases h6
noncomputable def asI(d:D):Option Int:=match d with
 | .int i=>some i
 | _=>none
theorem ET{i:Int}(h:asI d=some i):d=.int i:=by
 cases d<;>simp[asI] at h
 rw[h]
noncomputable def stF(k:Int)(d:D)(ds:List D):Option (List D):=(ixN ds.length k).map λj=>ds.set j d
noncomputable def stS(i:Nat)(gi gv:M D):M Fl:=bnd gv λd=>mutS i (bnd gi λn=>bnd (lft (asI n)) λk=>bnd (wr i (stF k d)) λ_=>ret .nx)
theorem zu{x:Str}{gi:M D}(hv:PE X (.Name x p1) (tVar i))(hi:ED X B ie gi)(he:ED X B e ga)(ha:∀v,Vj (.Subscript (.Name x p1) ie p2) X.env v=(do
   let ov ←Va [v] (eval (.Name x p1) X.env)
   let iv ←Va [v,ov] (eval ie X.env)
   X_ p2
   Va [v,ov,iv] (setItem ov iv v)
   release [v,ov,iv] []):=by intros;rfl)(hs:WL [.Subscript (.Name x p1) ie p2] e pos.line X.env=pure false:=by rfl)(hw:WM [.Subscript (.Name x p1) ie p2] e X.env=pure none:=by rfl)(h1:(SZ [.Subscript (.Name x p1) ie p2] X.env).map (·.2)=[Vj (.Subscript (.Name x p1) ie p2) X.env]:=by rfl):
  SD X B (.Assign [.Subscript (.Name x p1) ie p2] e pos) (stS i gi ga):=PS.imp (CC he (Oo hv hi Ni ha) hs hw h1) λE Z H q=>by
 obtain⟨G,I,Γ,f,ae,r,e1,k⟩:=q;obtain⟨d,Γ1,e2,e3⟩:=rK e1;obtain⟨hm,e3⟩:=wA e3;obtain⟨n,Γ2,e4,e5⟩:=rK e3;obtain⟨z,aM,e6,e7⟩:=rK e5;obtain⟨e8,rfl⟩:=sW e6;obtain⟨u,aP,f1,f2⟩:=rK e7;cases f2;have:=ET e8;subst this;refine⟨G,I,Γ,d,Γ1,r,e2,λv H1 I1 r1 g1 hd=>?_⟩;obtain⟨p,xs,h1,h2⟩:=vU hm r1;refine⟨_,h1,G,I1,Γ1,_,_,r1,e4,λw H2 I2 r2 g2 hw=>?_⟩;obtain⟨p',bV,ds,es,h3,h4,h5,h6,h7⟩:=yh f1 r2;have hp:p'=p:=by rw[h1] at h3;cases h3;rfl
 subst hp;unfold stF at h6;cases hj:ixN ds.length z with
 | none=>rw[hj] at h6;cases h6
 | some j =>
  rw[hj] at h6;cases h6;exact⟨p',bV,z,j,rfl,sQ hw,h4,by rw[←h5.length];exact hj,k Z _ I2 (h7 _ (IsA.set (hd.mono g2.up) j h5)) (g1.trans g2)⟩
def Yields(K:PySem.W.Frag)(I:Hp)(ds:List D)(J:It):Prop:=∀(i:Nat) (H1:Hp),Same I H1 →
 (∀d,ds[i]?=some d->J.go i H1/\∀x H2,J.yld i H1 x H2->(H2=H1/\Is K I d x)\/(∃p es xs,d=.tup es/\x=.ref p/\H1 p=none/\H2=upd H1 p (.tup xs)/\IsA K I es xs))/\(ds.length<=i->J.stop i H1)
noncomputable def tI(K:PySem.W.Frag)(B:BB)(g:M (List D)):TI:=λZ H R=>∃G I Γ ds ae,Rep K B G I H Z Γ/\g Γ=some (ds,ae)/\∀J H' I',Rep K B G I' H' Z ae->Grow G I I'->Yields K I' ds J->R J H'
def ITD(X:Cx)(B:BB)(tg iter:RW)(g:M (List D)):Prop:=PI X tg iter (tI X.K B g)
theorem Pa{l:RW}{tl:TE}(hl:PE X l tl):PI X tg l (λZ H R=>tl Z H λx H1=>(∃a,x=.ref a/\(∃xs,SqL X.K H1 a xs)/\R (Itl X.K a) H1)\/(∃a,x=.ref a/\(∃xs,SqT X.K H1 a xs)/\R (Itt X.K a) H1)):=by
 intro aa s Z H R I h;refine thn (hl aa s Z H _ I h) λv s1 ⟨x,H1,I1,r1,q1⟩=>?_
 rcases q1 with⟨a,e,⟨xs,hq⟩,q⟩ | ⟨a,e,⟨xs,hq⟩,q⟩
 ·subst e;cases r1;obtain⟨ac,rv,p,hz⟩:=I1.list hq;refine S4 p.isList ?_;refine⟨s1.heap.objs.size,[s1.heap.objs.size],_,_,H1,rfl,I1.kept (t':=s1.toks) λb o e=>f_ _ e,MR a _,⟨_,z_ _ rfl,rfl,rfl⟩,λb hb=>?_,q⟩;have e:b=s1.heap.objs.size:=by simpa using hb
  subst e;exact I1.fpOk (w_ _) (I1.hok.fresh (w_ _))
 ·subst e;cases r1;obtain⟨ac,rv,p,hz⟩:=I1.tuple hq;refine WV (show s1.heap.IsTuple a ac.toArray from p) ?_;refine⟨s1.heap.objs.size,[s1.heap.objs.size],_,_,H1,rfl,I1.kept (t':=s1.toks) λb o e=>f_ _ e,LF a _,⟨_,z_ _ rfl,rfl,rfl⟩,λb hb=>?_,q⟩;have e:b=s1.heap.objs.size:=by simpa using hb
  subst e;exact I1.fpOk (w_ _) (I1.hok.fresh (w_ _))
noncomputable def seqI(d:D):Option (List D):=match d with
 | .lst ds=>some ds
 | .tup ds=>some ds
 | _=>none
noncomputable def itS(g:M D):M (List D):=bnd g λd=>lft (seqI d)
theorem tL(ha:ED X B a ga):ITD X B tg a (itS ga):=PI.imp (Pa ha) λZ H R q=>by
 obtain⟨G,I,Γ,ds,ae,r,e1,k⟩:=q;obtain⟨d,Γ1,e2,e3⟩:=rK e1;obtain⟨e4,rfl⟩:=sW e3;refine⟨G,I,Γ,d,_,r,e2,λv H1 I1 r1 g1 hd=>?_⟩;cases d with
 | lst es =>
  cases e4;obtain⟨l,xs,rfl,h1,h2⟩:=sU hd;refine .inl ⟨l,rfl,⟨xs,(Same.rdK r1.iH h1).sq⟩,k _ _ _ r1 g1 λi H2 s2=>⟨λd hd=>?_,λhi=>⟨xs,(Same.rdK s2 h1).sq,by rw[←h2.length];exact hi⟩⟩⟩;obtain⟨x,e5,e6⟩:=h2.get hd;refine⟨⟨xs,x,(Same.rdK s2 h1).sq,e5⟩,λy H3 hy=>.inl ⟨hy.1,?_⟩⟩;have:=hy.2 xs ((Same.rdK s2 h1).sq);rw[e5] at this;cases this;exact e6
 | tup es =>
  cases e4;obtain⟨l,xs,rfl,h1,h2⟩:=sY hd;refine .inr ⟨l,rfl,⟨xs,Same.sqT r1.iH h1⟩,k _ _ _ r1 g1 λi H2 s2=>⟨λd hd=>?_,λhi=>⟨xs,Same.sqT s2 h1,by rw[←h2.length];exact hi⟩⟩⟩;obtain⟨x,e5,e6⟩:=h2.get hd;refine⟨⟨xs,x,Same.sqT s2 h1,e5⟩,λy H3 hy=>.inl ⟨hy.1,?_⟩⟩;have:=hy.2 xs (Same.sqT s2 h1);rw[e5] at this;cases this;exact e6
 | _=>cases e4
noncomputable def rngD(lo:Int)(n:Nat):List D:=(Sx n).map λ(k:Nat)=>D.int (lo+(k:Int))
theorem CF{K:PySem.W.Frag}(lo:Int)(n:Nat):Yields K I (rngD lo n) (Itr lo n):=λi H1 s1=>by
 refine⟨λd hd=>?_,λhi=>?_⟩
 ·unfold rngD at hd;rw[C_] at hd;cases e:(Sx n)[i]? with
  | none=>rw[e] at hd;cases hd
  | some j =>
   rw[e] at hd;cases hd;obtain⟨h1,h2⟩:=o_.mp e;rw[VF] at h2;rw[Vc] at h1;subst h2;refine⟨h1,λx H2 hy=>.inl ⟨hy.1,?_⟩⟩;rw[hy.2];exact Is.int _
 ·unfold rngD at hi;rw[q_,Vc] at hi;exact hi
noncomputable def rngI1(ds:List D):Option (List D):=match ds with
 | [.int j]=>if -1000000<=j/\j<=1000000 then some (rngD 0 j.toNat) else none
 | _=>none
noncomputable def rngI2(ds:List D):Option (List D):=match ds with
 | [.int i,.int j]=>if(-1000000<=i/\i<=1000000)/\-1000000<=j/\j<=1000000 then some (rngD i (j - i).toNat) else none
 | _=>none
theorem FJ{es:List D}(h:rngI1 ds=some es):∃j:Int,ds=[.int j]/\(-1000000<=j/\j<=1000000)/\es=rngD 0 j.toNat:=by
 unfold rngI1 at h;split at h
 ·obtain⟨h1,h2⟩:=tG h;exact⟨_,rfl,h1,h2⟩
 ·cases h
theorem Ke{es:List D}(h:rngI2 ds=some es):∃i j:Int,ds=[.int i,.int j]/\((-1000000<=i/\i<=1000000)/\-1000000<=j/\j<=1000000)/\es=rngD i (j - i).toNat:=by
 unfold rngI2 at h;split at h
 ·obtain⟨h1,h2⟩:=tG h;exact⟨_,_,rfl,h1,h2⟩
 ·cases h
theorem vM{p:Pos}{t:M (List D)}(hg:Gl X "range")(hm:X.mg "range"=none)(ha:AD X B [a] t)(hs:e_ [a] X.env=[(false,eval a X.env)]:=by rfl):ITD X B tg (.Call (.Name "range" p) [a] [] pos) (fn1 rngI1 t):=
 PI.imp (JB hg hm ha hs) λZ H R q=>by
  obtain⟨G,I,Γ,ds,ae,r,e1,k⟩:=q;obtain⟨d,Γ1,e2,e3⟩:=rK e1;obtain⟨e4,rfl⟩:=sW e3;obtain⟨j,rfl,⟨h1,h2⟩,rfl⟩:=FJ e4;refine⟨G,I,Γ,_,_,r,e2,λvs H1 I1 r1 g1 hd=>?_⟩;obtain⟨x,rfl,hx⟩:=hd.one;exact⟨j,by rw[sQ hx],by omega,by omega,k _ _ _ r1 g1 (CF _ _)⟩
theorem MS{p:Pos}{t:M (List D)}(hg:Gl X "range")(hm:X.mg "range"=none)(ha:AD X B [a,b] t)(hs:e_ [a,b] X.env=[(false,eval a X.env),(false,eval b X.env)]:=by rfl)(cA:e_ [b] X.env=[(false,eval b X.env)]:=by rfl):
  ITD X B tg (.Call (.Name "range" p) [a,b] [] pos) (fn1 rngI2 t):=
 PI.imp (IL hg hm ha hs cA) λZ H R q=>by
  obtain⟨G,I,Γ,ds,ae,r,e1,k⟩:=q;obtain⟨d,Γ1,e2,e3⟩:=rK e1;obtain⟨e4,rfl⟩:=sW e3;obtain⟨i,j,rfl,h1,rfl⟩:=Ke e4;refine⟨G,I,Γ,_,_,r,e2,λvs H1 I1 r1 g1 hd=>?_⟩;obtain⟨x,y,rfl,hx,hy⟩:=hd.two;exact⟨i,j,by rw[sQ hx,sQ hy],by omega,k _ _ _ r1 g1 (CF _ _)⟩
noncomputable def forM(az:D->M Unit)(body:M Fl):List D->M Fl
 | []=>ret .nx
 | d::ds=>bnd (az d) λ_=>bnd body λf=>match f with
  | .nx=>forM az body ds
  | .ct=>forM az body ds
  | .bk=>ret .nx
  | .rt r=>ret (.rt r)
noncomputable def forS(it:M (List D))(az:D->M Unit)(body:M Fl):M Fl:=bnd it λds=>forM az body ds
theorem PR{iter:RW}{body:List Sb}{it:M (List D)}{az:D->M Unit}(hp:Xn (t_ X.prog X.w) X.A X.env X.xe)(hc:X.calm=true)(hi:ITD X B tg iter it)(hg:GD X B m tg az)(hb:SDs X B body g)(hs:∀x,Sq iter X.env x=pure x:=by intros;rfl):SD X B (.For tg iter body [] pos) (forS it az g):=PS.imp (E2 hp hc hi hg hb hs) λE Z H q=>by
 obtain⟨G,I,Γ,f,ae,r,e1,k⟩:=q;obtain⟨ds,Γ1,e2,e3⟩:=rK e1;refine⟨G,I,Γ,ds,Γ1,r,e2,λJ H1 I1 r1 g1 y=>?_⟩;refine⟨λi m Z H=>∃I2 Γ2,Rep X.K B G I2 H Z Γ2/\Grow G I1 I2/\forM az g (ds.drop i) Γ2=some (f,ae)/\i<=ds.length/\m=ds.length - i,⟨ds.length,I1,Γ1,r1,Grow.refl _ _,by simpa using e3,Sh _,rfl⟩,?_⟩;rintro i m' aS H2 ⟨I2,Γ2,r2,g2,e4,bw,rfl⟩;obtain⟨yg,ys⟩:=y i H2 (g2.up.trans r2.iH);by_cases bD:i < ds.length
 ·have hd:ds.drop i=ds[i]::ds.drop (i+1):=R7 bD;obtain⟨go,yld⟩:=yg ds[i] (g_ bD);rw[hd] at e4;obtain⟨u,aM,e5,e6⟩:=rK e4;obtain⟨fl,aP,e7,e8⟩:=rK e6;refine .inr ⟨go,λah H'=>∃I3,Rep X.K B G I3 H' ah aP/\Grow G I1 I3/\(fl=.nx\/fl=.ct),λah H' ⟨I3,r3,g3,hf⟩=>⟨ds.length - (i+1),by omega,I3,aP,r3,g3,?_,bD,rfl⟩,λx H3 hy=>?_⟩
  ·rcases hf with rfl | rfl<;>exact e8
  ·have mG:∀I3,Rep X.K B G I3 H3 aS Γ2->Grow G I2 I3->Is X.K I3 ds[i] x->tGD X.K B m az x aS H3 λaS H2=>tS X.K B g { E with nx:=λah H'=>∃I3,Rep X.K B G I3 H' ah aP/\Grow G I1 I3/\(fl=.nx\/fl=.ct),ct:=λah H'=>∃I3,Rep X.K B G I3 H' ah aP/\Grow G I1 I3/\(fl=.nx\/fl=.ct),bk:=E.nx } aS H2:=by
    intro I3 r3 g3 hx;refine⟨G,I3,Γ2,ds[i],aM,r3,hx,e5,λdN H4 I4 r4 g4 _=>⟨G,I4,aM,fl,aP,r4,e7,λc9 H5 I5 r5 g5=>?_⟩⟩;have gg:Grow G I1 I5:=g2.trans (g3.trans (g4.trans g5));cases fl with
    | nx=>exact⟨I5,r5,gg,.inl rfl⟩
    | ct=>exact⟨I5,r5,gg,.inr rfl⟩
    | bk=>cases e8;exact k c9 H5 I5 r5 (g1.trans gg)
    | rt v=>cases e8;exact k c9 H5 I5 r5 (g1.trans gg)
   rcases yld x H3 hy with⟨rfl,hx⟩ | ⟨p,es,xs,dA,rfl,cG,rfl,hx⟩
   ·exact mG I2 r2 (Grow.refl _ _) (hx.mono g2.up)
   ·refine mG _ (r2.alloc cG _) (r2.growAlloc cG _) ?_;rw[dA];exact Is.tup (SqT.of tm) ((hx.mono g2.up).mono (tW (r2.iFree cG) _))
 ·have cC:i=ds.length:=by omega
  subst cC;rw[VR] at e4;cases e4;exact .inl ⟨ys (w_ _),k aS H2 I2 r2 (g1.trans g2)⟩
end
noncomputable def fin:List R->Gm->Option (List R)
 | [],_=>some []
 | .val d::rs,_::Γ=>match fin rs Γ with
  | some l=>some (.val d::l)
  | none=>none
 | .bor _::rs,some (.bor ds)::Γ=>match fin rs Γ with
  | some l=>some (.bor ds::l)
  | none=>none
 | _,_=>none
noncomputable def flR:Fl->Option R
 | .rt r=>some r
 | .nx=>some (.val .non)
 | _=>none
noncomputable def fnD1(n:Nat)(body:M Fl)(rs:List R):Option (R×List R):=
 match body (rs.map some++F_ (n - rs.length) none) with
 | some (f,ae)=>match flR f with
  | some r=>match fin rs ae with
   | some l=>some (r,l)
   | none=>none
  | none=>none
 | none=>none
noncomputable def fnD(n ar:Nat)(body:M Fl)(rs:List R):Option (R×List R):=if rs.length=ar then fnD1 n body rs else none
noncomputable def noOwn:R->Bool
 | .own _=>false
 | _=>true
noncomputable def vB(vs:List V):BB:=λi=>(vs.map some)[i]?
noncomputable def spD(K:PySem.W.Frag)(g:List R->Option (R×List R)):Sp:=λvs H Q _=>∃(G I:Hp) (rs:List R) (r:R) (bi:List R),Rep K (vB vs) G I H (vs.map some) (rs.map some)/\rs.all noOwn=true/\g rs=some (r,bi) ∧
 ∀v H' I',Rep K (vB vs) G I' H' (vs.map some) (bi.map some)->Grow G I I'->ResOk K G I' H' (vs.map some) (bi.map some) r v->Q v H'
theorem B4:∀{rs l:List R}{Γ:Gm},fin rs Γ=some l->l.length=rs.length/\∀(i:Nat) (r:R),l[i]?=some r->(∃d,r=.val d/\rs[i]?=some (.val d))\/(∃ds,r=.bor ds/\Γ[i]?=some (some (.bor ds)))
 | [],l,Γ,h=>by
  rw[fin] at h;cases h;exact⟨rfl,λi r e=>by simp at e⟩
 | .val d::rs,l,[],h=>by simp[fin] at h
 | .bor d::rs,l,[],h=>by simp[fin] at h
 | .own d::rs,l,Γ,h=>by cases Γ<;>simp[fin] at h
 | .fro d::rs,l,Γ,h=>by cases Γ<;>simp[fin] at h
 | .dic d::rs,l,Γ,h=>by cases Γ<;>simp[fin] at h
 | .val d::rs,l,o::Γ,h=>by
  rw[fin] at h;cases e:fin rs Γ with
  | none=>rw[e] at h;cases h
  | some l' =>
   rw[e] at h;cases h;obtain⟨h1,h2⟩:=B4 e;refine⟨by simp[h1],λi r er=>?_⟩;cases i with
   | zero=>simp at er;subst er;exact .inl ⟨d,rfl,rfl⟩
   | succ i =>
    rcases h2 i r (by simpa using er) with⟨d',e1,e2⟩ | ⟨ds,e1,e2⟩
    ·exact .inl ⟨d',e1,by simpa using e2⟩
    ·exact .inr ⟨ds,e1,by simpa using e2⟩
 | .bor d::rs,l,none::Γ,h=>by simp[fin] at h
 | .bor d::rs,l,some (.val x)::Γ,h=>by simp[fin] at h
 | .bor d::rs,l,some (.own x)::Γ,h=>by simp[fin] at h
 | .bor d::rs,l,some (.fro x)::Γ,h=>by simp[fin] at h
 | .bor d::rs,l,some (.dic x)::Γ,h=>by simp[fin] at h
 | .bor d::rs,l,some (.bor x)::Γ,h=>by
  rw[fin] at h;cases e:fin rs Γ with
  | none=>rw[e] at h;cases h
  | some l' =>
   rw[e] at h;cases h;obtain⟨h1,h2⟩:=B4 e;refine⟨by simp[h1],λi r er=>?_⟩;cases i with
   | zero=>simp at er;subst er;exact .inr ⟨x,rfl,rfl⟩
   | succ i =>
    rcases h2 i r (by simpa using er) with⟨d',e1,e2⟩ | ⟨ds,e1,e2⟩
    ·exact .inl ⟨d',e1,by simpa using e2⟩
    ·exact .inr ⟨ds,e1,by simpa using e2⟩
theorem getMap{α β:Type}{f:α->β}{l:List α}{b:β}(h:(l.map f)[i]?=some b):∃a,l[i]?=some a/\b=f a:=by
 rw[C_] at h;cases e:l[i]? with
 | none=>rw[e] at h;cases h
 | some a=>rw[e] at h;exact⟨a,rfl,(RY h).symm⟩
theorem wn{α:Type}{l:List α}{a:α}(h:(l.map some++F_ n (none:Option α))[i]?=some (some a)):l[i]?=some a:=by
 by_cases hi:i < (l.map some).length
 ·rw[SM hi] at h;obtain⟨b,e1,e2⟩:=getMap h;cases e2;exact e1
 ·rw[SJ (by omega),S_] at h;split at h<;>cases h
section
variable{P:x_}{w:I_}{K:PySem.W.Frag}
theorem sX{x:Str}{st:Sb}(F:Fun K x qual st f fd)(S:FnScope N ps (defScope st))(g:M Fl)(hb:∀(am:b_) (A:SH) (outer:List Env) (s:c_) (H:Hp) (E:XK) (B:BB),Room k (A.deeper (U7 qual (defScope st) s.heap.objs.size f am)) →
   SDs (cxOf CX0 P w K mg base N qual (defScope st) f am A outer s H E).nox B (defBody st) g):FnOk P w K mg base CX0 (k+1) f fd ps (spD K (fnD N.length ps.length g)):=by
 refine F.ok S (λvs H Q E h=>?_) (λam A outer s H vs Q E hr h=>?_)
 ·obtain⟨_,_,rs,_,_,h1,_,h2,_⟩:=h;unfold fnD at h2;by_cases hc:rs.length=ps.length
  ·rw[←hc];simpa using h1.len
  ·rw[if_neg hc] at h2;cases h2
 ·obtain⟨G,I,rs,r,bi,h2,h3,h4,h5⟩:=h;have hl:vs.length=rs.length:=by simpa using h2.len
  refine⟨_,hb am A outer s H E (λi=>(L2.start N vs)[i]?) hr,?_⟩;unfold fnD at h4
  have hc:rs.length=ps.length:=by
   by_cases hc:rs.length=ps.length
   ·exact hc
   ·rw[if_neg hc] at h4;cases h4
  rw[if_pos hc] at h4;unfold fnD1 at h4;cases e1:g (rs.map some++F_ (N.length - rs.length) none) with
  | none=>rw[e1] at h4;cases h4
  | some q =>
   obtain⟨fl,ae⟩:=q;rw[e1] at h4;dsimp only at h4;cases e2:flR fl with
   | none=>rw[e2] at h4;cases h4
   | some rr =>
    rw[e2] at h4;dsimp only at h4;cases e3:fin rs ae with
    | none=>rw[e3] at h4;cases h4
    | some l =>
     rw[e3] at h4;obtain⟨rfl,rfl⟩:rr=r/\l=bi:=by cases h4;exact⟨rfl,rfl⟩
     have iY:∀{i:Nat}{v:V},vs[i]?=some v->(L2.start N vs)[i]?=some (some v):=λ{i v} e=>by
      unfold L2.start;rw[SM (by rw[q_];exact(o_.mp e).1),C_,e];rfl
     have kC:∀{i:Nat}{v:V},(L2.start N vs)[i]?=some (some v)->vs[i]?=some v:=λ{i v} e=>wn e
     have mH:Rep K (λi=>(L2.start N vs)[i]?) G I H (L2.start N vs) (rs.map some++F_ (N.length - rs.length) none):={
      iH:=h2.iH,gH:=h2.gH
      len:=by unfold L2.start;rw[v_,v_,q_,q_,RX,RX,hl]
      slot:=λi q e=>by
       have e':=wn e;obtain⟨v,e4,e5⟩:=h2.slot i q (by rw[C_,e'];rfl);obtain⟨v',e6,e7⟩:=getMap e4;cases e7;exact⟨v,iY e6,e5⟩
      dist:=λi j q q' v e e' m m' s1 s2=>h2.dist i j q q' v (by rw[C_,wn e];rfl) (by rw[C_,wn e'];rfl) m m' (by rw[C_,kC s1];rfl) (by rw[C_,kC s2];rfl)
      bor:=λi ds e=>rfl }
     obtain⟨f1,f2⟩:=B4 e3
     -- behind the body
     have back:∀{ah:L2.St}{H' I':Hp},Rep K (λi=>(L2.start N vs)[i]?) G I' H' ah ae->Grow G I I'->Rep K (vB vs) G I' H' (vs.map some) (l.map some):=λ{ah H' I'} r' g'=>{
      iH:=r'.iH,gH:=r'.gH
      len:=by rw[q_,q_,f1,hl]
      slot:=λi q e=>by
       obtain⟨q',e4,e5⟩:=getMap e;cases e5
       rcases f2 i q e4 with⟨d,rfl,e6⟩ | ⟨ds,rfl,e6⟩
       ·obtain⟨v,e7,e8⟩:=h2.slot i (.val d) (by rw[C_,e6];rfl);exact⟨v,e7,Is.mono g'.up e8⟩
       ·obtain⟨v,e7,e8⟩:=r'.slot i _ e6;have e9:=r'.bor i ds e6;rw[e7] at e9;exact⟨v,by rw[C_,kC e9.symm];rfl,e8⟩
      dist:=λi j q q' v e e' m m' s1 s2=>by
       obtain⟨_,e4,e5⟩:=getMap e;cases e5;obtain⟨_,e6,e7⟩:=getMap e';cases e7
       rcases f2 i q e4 with⟨d,rfl,_⟩ | ⟨ds,rfl,e8⟩
       ·cases m
       rcases f2 j q' e6 with⟨d,rfl,_⟩ | ⟨eJ,rfl,e9⟩
       ·cases m'
       obtain⟨v1,a1,_⟩:=getMap s1;obtain⟨v2,a2,a3⟩:=getMap s2;have b1:=r'.bor i ds e8;have b2:=r'.bor j eJ e9;rename_i b3;cases b3;cases a3;rw[iY a1] at b1;rw[iY a2] at b2;exact r'.dist i j _ _ v e8 e9 rfl rfl b1 b2
      bor:=λi ds e=>rfl }
     have ap:∀{ah:L2.St}{H' I':Hp}{p:i_},Rep K (λi=>(L2.start N vs)[i]?) G I' H' ah ae->Apart ah ae p->Apart (vs.map some) (l.map some) p:=λ{ah H' I' p} r' a i q e m z=>by
      obtain⟨_,e4,e5⟩:=getMap e;cases e5
      rcases f2 i q e4 with⟨d,rfl,_⟩ | ⟨ds,rfl,e8⟩
      ·cases m
      obtain⟨v1,a1,a2⟩:=getMap z;cases a2;exact a i _ e8 rfl ((r'.bor i ds e8).trans (iY a1))
     refine⟨G,I,_,fl,ae,mH,e1,λah H' I' r' g'=>?_⟩;cases fl with
     | nx=>cases e2;exact h5 _ H' I' (back r' g') g' (show Is K I' D.non V.non from Is.non)
     | bk=>cases e2
     | ct=>cases e2
     | rt r0 =>
      cases e2;intro v hv;refine h5 v H' I' (back r' g') g' ?_;cases rr with
      | val d=>exact hv
      | bor d=>exact hv
      | fro d=>exact hv
      | dic d =>
       obtain⟨p,xs,b1,b2,b3,b4,b5,b6⟩:=hv;exact⟨p,xs,b1,b2,b3,b4,ap r' b5,b6⟩
      | own d =>
       obtain⟨p,xs,b1,b2,b3,b4,b5,b6⟩:=hv;exact⟨p,xs,b1,b2,b3,b4,ap r' b5,b6⟩
end
mutual
noncomputable def noL:D->Bool
 | .tup ds=>noLA ds
 | .lst _=>false
 | _=>true
noncomputable def noLA:List D->Bool
 | []=>true
 | d::ds=>noL d&&noLA ds
end
noncomputable def tupOf(I0 I:Hp):Hp:=λb=>match I0 b with
 | some o=>some o
 | none=>match I b with
  | some (.lst _)=>none
  | o=>o
theorem Ff:Same I0 (tupOf I0 I):=λb o e=>by unfold tupOf;rw[e]
theorem AY(h:tupOf I0 I b=some o):I0 b=some o\/(I0 b=none/\I b=some o/\∀xs,o≠.lst xs):=by
 unfold tupOf at h;cases e:I0 b with
 | some o'=>rw[e] at h;cases h;exact .inl rfl
 | none =>
  rw[e] at h;cases e1:I b with
  | none=>rw[e1] at h;cases h
  | some o' =>
   rw[e1] at h;cases o'<;>first | (cases h;exact .inr ⟨rfl,rfl,λxs z=>by cases z⟩) | cases h
theorem zd(s:Same I0 I)(h:I b=some o)(n:∀xs,o≠.lst xs):tupOf I0 I b=some o:=by
 unfold tupOf;cases e:I0 b with
 | some o'=>rw[s b o' e] at h;exact h
 | none =>
  simp only[h];split
  ·rename_i z;cases z;exact absurd rfl (n _)
  ·rfl
mutual
theorem Nc{K:PySem.W.Frag}{I0 I:Hp}(s:Same I0 I):∀(d:D) (v:V),noL d=true->Is K I d v->Is K (tupOf I0 I) d v
 | .non,_,_,h=>by rw[Is] at h ⊢;exact h
 | .bl _,_,_,h=>by rw[Is] at h ⊢;exact h
 | .int _,_,_,h=>by rw[Is] at h ⊢;exact h
 | .str _,_,_,h=>by rw[Is] at h ⊢;exact h
 | .lst _,_,n,_=>by simp[noL] at n
 | .exc _ _,v,_,h=>by
  obtain⟨a,d,rfl,h1,h2⟩:=Bf h;exact Is.exc (zd s h1 λxs z=>by cases z) λk z=>let ⟨dx,q1,q2⟩:=h2 k z;⟨dx,q1,zd s q2 λxs z=>by cases z⟩
 | .tup ds,v,n,h=>by
  rw[noL] at n;obtain⟨a,xs,rfl,h1,h2⟩:=sY h;refine Is.tup ?_ (A2 s ds xs n h2)
  rcases h1 with(h1 | ⟨o,h1⟩) | h1
  ·exact .inl (.inl (zd s h1 λxs z=>by cases z))
  ·exact .inl (.inr ⟨o,zd s h1 λxs z=>by cases z⟩)
  ·exact .inr h1
theorem A2{K:PySem.W.Frag}{I0 I:Hp}(s:Same I0 I):∀(ds:List D) (xs:List V),noLA ds=true->IsA K I ds xs->IsA K (tupOf I0 I) ds xs
 | [],xs,_,h=>by rw[h.nil_inv];exact IsA.nil
 | d::ds,xs,n,h=>by
  rw[noLA,J_] at n;obtain⟨x,r,rfl,h1,h2⟩:=h.cons_inv;exact IsA.cons (Nc s d x n.1 h1) (A2 s ds r n.2 h2)
end
section
variable{B:BB}{es:List RW}{p:Pos}{x:Str}{g:List R->Option (R×List R)}{t:M (List D)}
noncomputable def cvF(g:List R->Option (R×List R))(ds:List D):Option D:=match g (ds.map .val) with
 | some (.val d,_)=>some d
 | some (.fro d,_)=>some (.lst d)
 | _=>none
noncomputable def coF(g:List R->Option (R×List R))(ds:List D):Option (List D):=match g (ds.map .val) with
 | some (.own d,_)=>some d
 | some (.fro d,_)=>if noLA d=true then some d else none
 | _=>none
theorem xG{K:PySem.W.Frag}{H:Hp}{vs:List V}(r:Rep K B G I H Z Γ)(h:IsA K I ds vs):Rep K (vB vs) H I H (vs.map some) ((ds.map R.val).map some) where
 iH:=r.iH
 gH:=Same.refl _
 len:=by rw[q_,q_,q_,h.length]
 slot:=λi q e=>by
  obtain⟨_,e1,e2⟩:=getMap e;cases e2;obtain⟨d,e3,rfl⟩:=getMap e1;obtain⟨v,e4,e5⟩:=h.get e3;exact⟨v,by rw[C_,e4];rfl,e5⟩
 dist:=λi j q q' v e e' m=>by
  obtain⟨_,e1,e2⟩:=getMap e;cases e2;obtain⟨d,e3,rfl⟩:=getMap e1;cases m
 bor:=λi ds e=>rfl
theorem wI(ds:List D):(ds.map R.val).all noOwn=true:=by
 induction ds with
 | nil=>rfl
 | cons d r ih=>rw[G_,S0,ih];rfl
theorem AB{K:PySem.W.Frag}{B':BB}{H:Hp}{ah:L2.St}(r:Rep K B G I H Z Γ)(r':Rep K B' H I' H' ah ae)(g':Grow H I I'):Rep K B G I' H' Z Γ/\Grow G I I':=
 ⟨r.ext g'.up r'.gH r'.iH g'.new,g'.up,λb o e=>(g'.new b o e).imp (λz=>z) λz=>r.gFree z⟩
theorem t_cv{K:PySem.W.Frag}{E:XK}:∀Z H Q,tD K B (fn1 (cvF g) t) Z H Q->tCall (spD K g) [] E (tAD K B t) Z H Q:=λZ H Q q=>by
 obtain⟨G,I,Γ,d,ae,r,e1,kk⟩:=q;obtain⟨ds,Γ1,e2,e3⟩:=rK e1;obtain⟨e4,rfl⟩:=sW e3;refine⟨G,I,Γ,ds,_,r,e2,λvs H1 I1 r1 g1 h1=>?_⟩;show spD K g (vs++[]) H1 Q E;rw[SO];unfold cvF at e4;cases e5:g (ds.map .val) with
 | none=>rw[e5] at e4;cases e4
 | some q =>
  obtain⟨rr,bi⟩:=q;rw[e5] at e4;cases rr with
  | val d' =>
   cases e4;refine⟨H1,I1,ds.map .val,.val d,bi,xG r1 h1,wI ds,e5,λv H' I' r' g' hv=>?_⟩;obtain⟨r2,g2⟩:=AB r1 r' g';exact kk v H' I' r2 (g1.trans g2) hv
  | fro d' =>
   cases e4;refine⟨H1,I1,ds.map .val,.fro d',bi,xG r1 h1,wI ds,e5,λv H' I' r' g' hv=>?_⟩;obtain⟨r2,g2⟩:=AB r1 r' g';obtain⟨p,xs,rfl,f1,_,f3⟩:=hv;exact kk _ H' I' r2 (g1.trans g2) (Is.lst (RdK.of f1) f3)
  | own _=>cases e4
  | bor _=>cases e4
  | dic _=>cases e4
theorem t_co{K:PySem.W.Frag}{E:XK}:∀Z H Q,tO K B (fn1 (coF g) t) Z H Q->tCall (spD K g) [] E (tAD K B t) Z H Q:=λZ H Q q=>by
 obtain⟨G,I,Γ,d,ae,r,e1,kk⟩:=q;obtain⟨ds,Γ1,e2,e3⟩:=rK e1;obtain⟨e4,rfl⟩:=sW e3;refine⟨G,I,Γ,ds,_,r,e2,λvs H1 I1 r1 g1 h1=>?_⟩;show spD K g (vs++[]) H1 Q E;rw[SO];unfold coF at e4;cases e5:g (ds.map .val) with
 | none=>rw[e5] at e4;cases e4
 | some q =>
  obtain⟨rr,bi⟩:=q;rw[e5] at e4;cases rr with
  | own d' =>
   cases e4;refine⟨H1,I1,ds.map .val,.own d,bi,xG r1 h1,wI ds,e5,λv H' I' r' g' hv=>?_⟩;obtain⟨r2,g2⟩:=AB r1 r' g';obtain⟨q,xs,rfl,b2,b3,b4,b5,b6⟩:=hv;exact kk q xs H' I' r2 (g1.trans g2) b2 b3 (r1.gFree b4) (r1.apart b4) b6
  | fro d' =>
   obtain⟨nl,e4⟩:=tG e4;subst e4;refine⟨H1,I1,ds.map .val,.fro d,bi,xG r1 h1,wI ds,e5,λv H' I' r' g' hv=>?_⟩;obtain⟨p,xs,rfl,f1,f2,f3⟩:=hv
   have new:∀b o,tupOf I1 I' b=some o->I1 b=some o\/H1 b=none:=λb o e=>by
    rcases AY e with z | ⟨_,z,_⟩
    ·exact .inl z
    ·exact g'.new b o z
   have r2:Rep K B G (tupOf I1 I') H' Z _:=r1.ext Ff r'.gH (λb o e=>by
    rcases AY e with z | ⟨_,z,_⟩
    ·exact r'.iH b o (g'.up b o z)
    ·exact r'.iH b o z) new
   refine kk p xs H' (tupOf I1 I') r2 (g1.trans ⟨Ff,λb o e=>(new b o e).imp (λz=>z) λz=>r1.gFree z⟩) (r'.iH p _ f1) ?_ (r1.gFree f2) (r1.apart f2) (A2 g'.up _ _ nl f3);cases e:tupOf I1 I' p with
   | none=>rfl
   | some o =>
    rcases AY e with z | ⟨_,z,zn⟩
    ·rw[r1.iFree f2] at z;cases z
    ·rw[f1] at z;cases z;exact absurd rfl (zn _)
  | val _=>cases e4
  | bor _=>cases e4
  | dic _=>cases e4
variable {rL:Nat}{b:RW}
theorem sP(F:FnOk X.prog X.w X.K X.mg X.base CX0 k f fd ps (spD X.K g))(hr:Room k X.A)(hg:Gl X x)(hm:X.mg x=some (.ref f))(hk:PySem.W.keepIn X.K (.ref f)=true)(hb:Binds X.K fd ps [])(ha:AD X B (e::es) t)(bC:(x == ("__debug__":Str))=false:=by decide)(he:e_ (e::es) X.env=(false,eval e X.env)::e_ es X.env:=by rfl)(aC:(R4 pos (e_ es X.env)).any (·.1)=false:=by rfl):
  ED X B (.Call (.Name x p) (e::es) [] pos) (fn1 (cvF g) t):=PE.imp (z8 F hr hg hm hk hb .nil pass0 ha bC he aC) t_cv
theorem tf(F:FnOk X.prog X.w X.K X.mg X.base CX0 k f fd ps (spD X.K g))(hr:Room k X.A)(hg:Gl X x)(hm:X.mg x=some (.ref f))(hk:PySem.W.keepIn X.K (.ref f)=true)(hb:Binds X.K fd ps [])(ha:AD X B (e::es) t)(bC:(x == ("__debug__":Str))=false:=by decide)(he:e_ (e::es) X.env=(false,eval e X.env)::e_ es X.env:=by rfl)(aC:(R4 pos (e_ es X.env)).any (·.1)=false:=by rfl):
  EO X B (.Call (.Name x p) (e::es) [] pos) (fn1 (coF g) t):=PE.imp (z8 F hr hg hm hk hb .nil pass0 ha bC he aC) t_co
noncomputable def hide(H:Hp)(p:i_):Hp:=λb=>if b=p then none else H b
theorem DM{H:Hp}{p:i_}:hide H p p=none:=by unfold hide;rw[if_pos rfl]
theorem vD{H:Hp}{p b:i_}(h:b≠p):hide H p b=H b:=by unfold hide;rw[if_neg h]
theorem Ob{H:Hp}{p:i_}:Same (hide H p) H:=λb o e=>by
 by_cases h:b=p
 ·subst h;rw[DM] at e;cases e
 ·rw[vD h] at e;exact e
noncomputable def bcF(g:List R->Option (R×List R))(c ds:List D):Option (R×List D):=match g (.bor c::ds.map .val) with
 | some (r,.bor c'::_)=>some (r,c')
 | _=>none
noncomputable def callB(i:Nat)(g:List R->Option (R×List R))(t:M (List D)):M R:=mutS i (bnd t λds=>λΓ1=>match Γ1[i]? with
 | some (some (.own c))=>match bcF g c ds with
  | some (r,c')=>some (r,Γ1.set i (some (.own c')))
  | none=>none
 | some (some (.bor c))=>match bcF g c ds with
  | some (r,c')=>some (r,Γ1.set i (some (.bor c')))
  | none=>none
 | _=>none)
noncomputable def asV(r:R):Option D:=match r with
 | .val d=>some d
 | _=>none
noncomputable def asO(r:R):Option (List D):=match r with
 | .own d=>some d
 | _=>none
noncomputable def cbV(i:Nat)(g:List R->Option (R×List R))(t:M (List D)):M D:=bnd (callB i g t) λr=>lft (asV r)
theorem Rep.extBut{K:PySem.W.Frag}{H:Hp}(r:Rep K B G I H Z Γ){q:i_}(ap:Apart Z Γ q)(gq:G q=none)(iq:I q=none)(rM:I' q=none)(hI:Same I I')(hH:∀b o,H b=some o->b≠q->H' b=some o)(iH:Same I' H')(new:∀b o,I' b=some o->I b=some o\/H b=none\/b=q):Rep K B G I' H' Z Γ where
 iH:=iH
 gH:=λb o e=>hH b o (r.gH b o e) (λz=>by subst z;rw[gq] at e;cases e)
 len:=r.len
 slot:=λi qr e=>by
  obtain⟨v,e1,e2⟩:=r.slot i qr e;refine⟨v,e1,?_⟩
  have mt:qr.ptr=true->∀ds,Mt K G I H ds v->Mt K G I' H' ds v:=λm ds h=>by
   obtain⟨p2,xs,h1,h2,h3,h4,h5⟩:=h;have ne:p2≠q:=λz=>ap i qr e m (by rw[e1,h1,z])
   refine⟨p2,xs,h1,hH _ _ h2 ne,?_,h4,h5.mono hI⟩;cases z:I' p2 with
   | none=>rfl
   | some o =>
    rcases new p2 o z with z1 | z1 | z1
    ·rw[h3] at z1;cases z1
    ·rw[h2] at z1;cases z1
    ·exact absurd z1 ne
  cases qr with
  | val d=>exact Is.mono hI e2
  | dic ds =>
   obtain⟨p2,xs,h1,h2,h3,h4,h5⟩:=e2;have ne:p2≠q:=λz=>ap i _ e rfl (by rw[e1,h1,z])
   refine⟨p2,xs,h1,hH _ _ h2 ne,?_,h4,h5.mono hI⟩;cases z:I' p2 with
   | none=>rfl
   | some o =>
    rcases new p2 o z with z1 | z1 | z1
    ·rw[h3] at z1;cases z1
    ·rw[h2] at z1;cases z1
    ·exact absurd z1 ne
  | own ds=>exact mt rfl ds e2
  | bor ds=>exact mt rfl ds e2
  | fro ds=>obtain⟨p,xs,f1,f2,f3,f4⟩:=e2;exact⟨p,xs,f1,hI _ _ f2,f3,f4.mono hI⟩
 dist:=r.dist
 bor:=r.bor
theorem borrow{K:PySem.W.Frag}{H:Hp}{q q':R}{c c':List D}{ws:List V}{Q:VK}{E:XK}(r:Rep K B G I H Z Γ)(hq:Γ[i]?=some (some q))(hc:(q=.own c/\q'=.own c')\/(q=.bor c/\q'=.bor c'))(hd:IsA K I ds ws)(gK:Z[i]?=some (some v0))(hg:bcF g c ds=some (rr,c'))(k:∀v H' I',Rep K B G I' H' Z (Γ.set i (some q'))->Grow G I I'->ResOk K G I' H' Z (Γ.set i (some q')) rr v->Q v H'):spD K g (v0::ws) H Q E:=by
 obtain⟨v,e1,e2⟩:=r.slot i q hq;rw[gK] at e1;cases e1;have hm:q.ptr=true:=by rcases hc with⟨rfl,_⟩ | ⟨rfl,_⟩<;>rfl
 have mt:Mt K G I H c v0:=by rcases hc with⟨rfl,_⟩ | ⟨rfl,_⟩<;>exact e2
 obtain⟨a,xs,rfl,h1,h2,h3,h4⟩:=mt;unfold bcF at hg;cases e3:g (.bor c::ds.map .val) with
 | none=>rw[e3] at hg;cases hg
 | some z =>
  obtain⟨r0,bi⟩:=z;rw[e3] at hg;cases bi with
  | nil=>cases hg
  | cons y bi =>
   cases y with
   | val _=>cases hg
   | own _=>cases hg
   | fro _=>cases hg
   | dic _=>cases hg
   | bor c2 =>
    cases hg;refine⟨hide H a,I,.bor c::ds.map .val,rr,.bor c'::bi,?_,by rw[S0,wI];rfl,e3,λv H' I' r' g' hv=>?_⟩
    ·have rv:=xG r hd
     exact {
      iH:=r.iH,gH:=Ob
      len:=by rw[G_,G_,R8,R8,rv.len]
      slot:=λj qr e=>by
       cases j with
       | zero=>cases e;exact⟨_,rfl,a,xs,rfl,h1,h2,DM,h4⟩
       | succ j =>
        obtain⟨w,e4,e5⟩:=rv.slot j qr (by simpa using e);refine⟨w,by simpa using e4,?_⟩;have e9:((ds.map R.val).map some)[j]?=some (some qr):=e;obtain⟨z,f1,f2⟩:=getMap e9;cases f2;obtain⟨d,f3,rfl⟩:=getMap f1;exact e5
      dist:=λj l qr rN w e e' m m' s1 s2=>by
       have only:∀{j:Nat}{qr:R},((R.bor c::ds.map R.val).map some)[j]?=some (some qr)->qr.ptr=true->j=0:=λ{j qr} e m=>by
        cases j with
        | zero=>rfl
        | succ j =>
         have e9:((ds.map R.val).map some)[j]?=some (some qr):=e;obtain⟨z,f1,f2⟩:=getMap e9;cases f2;obtain⟨d,f3,rfl⟩:=getMap f1;cases m
       rw[only e m,only e' m']
      bor:=λj es e=>rfl }
    ·obtain⟨w,e4,e5⟩:=r'.slot 0 (.bor c') rfl;cases e4;obtain⟨a',bV,e6,f1,f2,f3,f4⟩:=e5;cases e6
     have cu:Apart Z (Γ.set i none) a:=λj r1 z m s=>by
      rcases tJ z with⟨_,z',_⟩ | ⟨n,z'⟩
      ·cases z'
      ·exact n (r.dist j i r1 q _ z' hq m hm s gK)
     have r1:=(r.forget i).extBut (q:=a) cu h3 h2 f2 g'.up (λb o e n=>r'.gH b o (by rw[vD n];exact e)) r'.iH (λb o e=>by
      rcases g'.new b o e with z | z
      ·exact .inl z
      ·by_cases n:b=a
       ·exact .inr (.inr n)
       ·rw[vD n] at z;exact .inr (.inl z))
     have r2:=r1.learn (i:=i) (q:=q') (v:=.ref a) gK (by rcases hc with⟨_,rfl⟩ | ⟨_,rfl⟩<;>exact⟨a,bV,rfl,f1,f2,h3,f4⟩) (λm p2 e j r' n z m' s=>by
      cases e;exact cu j r' z m' s) (λes z=>by
      rcases hc with⟨_,rfl⟩ | ⟨rfl,rfl⟩
      ·cases z
      ·exact r.bor i c hq)
     rw[Yc] at r2
     have g2:Grow G I I':=⟨g'.up,λb o e=>by
      rcases g'.new b o e with z | z
      ·exact .inl z
      ·by_cases n:b=a
       ·subst n;exact .inr h3
       ·rw[vD n] at z;exact .inr (r.gFree z)⟩
     refine k v H' I' r2 g2 ?_;cases rr with
     | val d=>exact hv
     | bor d=>exact hv
     | fro d =>
      obtain⟨p2,ys,b1,b2,b3,b4⟩:=hv;have ne:p2≠a:=λz=>by rw[z,f2] at b2;cases b2
      rw[vD ne] at b3;exact⟨p2,ys,b1,b2,r.gFree b3,b4⟩
     | dic d =>
      obtain⟨p2,ys,b1,b2,b3,b4,b5,b6⟩:=hv;have ne:p2≠a:=λz=>b5 0 (.bor c') rfl rfl (by rw[z];rfl)
      rw[vD ne] at b4;refine⟨p2,ys,b1,b2,b3,r.gFree b4,λj r3 z m s=>?_,b6⟩
      rcases tJ z with⟨rfl,z',_⟩ | ⟨n,z'⟩
      ·rw[gK] at s;cases s;exact ne rfl
      ·exact r.apart b4 j r3 z' m s
     | own d =>
      obtain⟨p2,ys,b1,b2,b3,b4,b5,b6⟩:=hv;have ne:p2≠a:=λz=>b5 0 (.bor c') rfl rfl (by rw[z];rfl)
      rw[vD ne] at b4;refine⟨p2,ys,b1,b2,b3,r.gFree b4,λj r3 z m s=>?_,b6⟩
      rcases tJ z with⟨rfl,z',_⟩ | ⟨n,z'⟩
      ·rw[gK] at s;cases s;exact ne rfl
      ·exact r.apart b4 j r3 z' m s
theorem IH{t:M (List D)}(h:callB i g t Γ=some (rr,ae)):isMut Γ i=true/\∃ds Γ1 q q' c c',t Γ=some (ds,Γ1)/\Γ1[i]?=some (some q)/\((q=.own c/\q'=.own c')\/(q=.bor c/\q'=.bor c'))/\bcF g c ds=some (rr,c')/\ae=Γ1.set i (some q'):=by
 obtain⟨hm,h⟩:=wA h;obtain⟨ds,Γ1,e1,e2⟩:=rK h;refine⟨hm,ds,Γ1,?_⟩;cases e:Γ1[i]? with
 | none=>simp only[e] at e2;cases e2
 | some o =>
  cases o with
  | none=>simp only[e] at e2;cases e2
  | some q =>
   cases q with
   | val d=>simp only[e] at e2;cases e2
   | fro d=>simp only[e] at e2;cases e2
   | dic d=>simp only[e] at e2;cases e2
   | own c =>
    simp only[e] at e2;cases e3:bcF g c ds with
    | none=>simp only[e3] at e2;cases e2
    | some z =>
     obtain⟨r0,c'⟩:=z;simp only[e3] at e2;cases e2;exact⟨.own c,.own c',c,c',e1,rfl,.inl ⟨rfl,rfl⟩,e3,rfl⟩
   | bor c =>
    simp only[e] at e2;cases e3:bcF g c ds with
    | none=>simp only[e3] at e2;cases e2
    | some z =>
     obtain⟨r0,c'⟩:=z;simp only[e3] at e2;cases e2;exact⟨.bor c,.bor c',c,c',e1,rfl,.inr ⟨rfl,rfl⟩,e3,rfl⟩
theorem Ph{K:PySem.W.Frag}{E:XK}:∀Z H Q,tD K B (cbV i g t) Z H Q->tCall (spD K g) [] E (tCons (tVar i) (tAD K B t)) Z H Q:=λZ H Q q=>by
 obtain⟨G,I,Γ,d,ae,r,e1,kk⟩:=q;obtain⟨rr,iZ,e2,e3⟩:=rK e1;obtain⟨e4,rfl⟩:=sW e3;obtain⟨hm,ds,Γ1,q,q',c,c',f1,f2,f3,f4,rfl⟩:=IH e2;obtain⟨a,xs,h1,h2⟩:=vU hm r;refine⟨_,h1,G,I,Γ,ds,Γ1,r,f1,λws H1 I1 r1 g1 hd=>?_⟩;show spD K g ((.ref a::ws)++[]) H1 Q E;rw[SO];refine borrow r1 f2 f3 hd h1 f4 λv H' I' r' g' hv=>?_
 cases rr with
 | val d'=>cases e4;exact kk v H' I' r' (g1.trans g') hv
 | own _=>cases e4
 | bor _=>cases e4
 | fro _=>cases e4
 | dic _=>cases e4
theorem tF(F:FnOk X.prog X.w X.K X.mg X.base CX0 k f fd ps (spD X.K g))(hr:Room k X.A)(hg:Gl X x)(hm:X.mg x=some (.ref f))(hk:PySem.W.keepIn X.K (.ref f)=true)(hb:Binds X.K fd ps [])(hv:PE X (.Name y py) (tVar i))(ha:AD X B es t)(bC:(x == ("__debug__":Str))=false:=by decide)(he:e_ (.Name y py::es) X.env=(false,eval (.Name y py) X.env)::e_ es X.env:=by rfl)(aC:(R4 pos (e_ es X.env)).any (·.1)=false:=by rfl):
  ED X B (.Call (.Name x p) (.Name y py::es) [] pos) (cbV i g t):=PE.imp (z8 F hr hg hm hk hb .nil pass0 (uY hv ha he) bC he aC) Ph
end
end DL
variable{it t:DL.M (List DL.D)}{c tc:DL.M Bool}{body:DL.M DL.Fl}{az:DL.D->DL.M Unit}{gl gh:DL.M (Option Int)}{m' mx:DL.M Nat}{ga el Y:DL.M DL.D}
namespace DL
open PySem PySem.Spec PyProof.Rows L2
noncomputable def relab(sc cH:Vh):Vh:={ sc with names:=sc.names.map λ(n,k)=>if(k == .free&&cH.kind == .function&&cH.names.lookup n == some .cell) then(n,.cell) else(n,k) }
noncomputable def clo(cells:List (Str×i_)):List (Str×Su)->List (Str×i_)->List (Str×i_)
 | [],ag=>ag
 | (n,k)::r,ag=>if k == .free then clo cells r ((n,(cells.lookup n).getD 0)::ag) else clo cells r ag
theorem Dz{env:Env}(f:Str×Su->List (Str×i_)->Sem (ForInStep (List (Str×i_))))(hf:∀name kind cs,f (name,kind) cs=if kind == .free then(do let a ←cellOf env name;pure (.yield ((name,a)::cs))) else pure (.yield cs)):
  ∀(names:List (Str×Su)) (ag:List (Str×i_)),(∀n,(n,Su.free)∈names->∃c,env.cells.lookup n=some c)->(forIn names ag f:Sem _)=pure (clo env.cells names ag)
 | [],ag,_=>by rw[Vg];rfl
 | (n,k)::r,ag,h=>by
  rw[Ui,hf];unfold clo;have ih:=λmI=>Dz f hf r mI (λn hn=>h n (j_ _ hn))
  by_cases hk:(k == Su.free)=true
  ·rw[if_pos hk,if_pos hk];have bO:k=.free:=by simpa using hk
   subst bO;obtain⟨c,hc⟩:=h n m_;have e:cellOf env n=pure c:=by unfold cellOf;rw[hc]
   rw[e,hc];simp only[pure_bind,Option.getD_some];exact ih _
  ·rw[if_neg hk,if_neg hk];simp only[pure_bind];exact ih _
theorem Fy(h:∀n,(n,Su.free)∈scope.names->∃c,env.cells.lookup n=some c):closureFor scope env=pure (clo env.cells scope.names []):=by
 unfold closureFor;dsimp only;rw[Dz (env:=env) _ (λname kind cs=>by cases hk:kind == Su.free<;>simp[hk]) scope.names [] h];rfl
theorem xW{cells:List (Str×i_)}:∀{names:List (Str×Su)}{ag:List (Str×i_)}{x:Str}{c:i_},(x,c)∈clo cells names ag->(x,c)∈ag\/((x,Su.free)∈names/\c=(cells.lookup x).getD 0)
 | [],ag,x,c,h=>.inl h
 | (n,k)::r,ag,x,c,h=>by
  unfold clo at h;by_cases hk:(k == Su.free)=true
  ·rw[if_pos hk] at h;have bO:k=.free:=by simpa using hk
   subst bO
   rcases xW h with z | ⟨z1,z2⟩
   ·rcases B_.mp z with z | z
    ·cases z;exact .inr ⟨m_,rfl⟩
    ·exact .inl z
   ·exact .inr ⟨j_ _ z1,z2⟩
  ·rw[if_neg hk] at h
   rcases xW h with z | ⟨z1,z2⟩
   ·exact .inl z
   ·exact .inr ⟨j_ _ z1,z2⟩
theorem Ad{cells:List (Str×i_)}:∀{names:List (Str×Su)}{ag:List (Str×i_)}{x:Str},((x,Su.free)∈names\/∃c,ag.lookup x=some c)->∃c,(clo cells names ag).lookup x=some c
 | [],ag,x,h=>by
  rcases h with h | h
  ·cases h
  ·exact h
 | (n,k)::r,ag,x,h=>by
  unfold clo
  have push:∀c0:i_,(∃c,ag.lookup x=some c)->∃c,((n,c0)::ag).lookup x=some c:=λc0 ⟨c,hc⟩=>by
   rw[List.lookup_cons];cases x == n
   ·exact⟨c,hc⟩
   ·exact⟨c0,rfl⟩
  by_cases hk:(k == Su.free)=true
  ·rw[if_pos hk];refine Ad ?_
   rcases h with h | h
   ·rcases B_.mp h with z | z
    ·cases z;exact .inr ⟨_,by rw[List.lookup_cons,beq_self_eq_true]⟩
    ·exact .inl z
   ·exact .inr (push _ h)
  ·rw[if_neg hk];refine Ad ?_
   rcases h with h | h
   ·rcases B_.mp h with z | z
    ·cases z;exact absurd (by rfl) hk
    ·exact .inl z
   ·exact .inr h
structure CompScope(cH sc:Vh)(N N':List Str)(m:Nat):Prop where
 kind:sc.kind=.function
 nocell:∀y∈sc.names,y.2≠.cell
 locals:∀y∈sc.names,y.2=.local->sc.names.lookup y.1=some .local
 free:∀y∈sc.names,y.2=.free->cH.names.lookup y.1=some .cell\/cH.names.lookup y.1=some .free
 nd:N'.Nodup
 len:N'.length=m+N.length
 up:∀p∈(N'.drop m).zip N,((relab sc cH).names.lookup p.1=none)\/(p.1=p.2/\(relab sc cH).names.lookup p.1≠some .local)
noncomputable def cxC(X:Cx)(scope:Vh)(N':List Str)(C:i_)(s:c_)(H:Hp)(ex:List i_):Cx:=
 { X with N:=N',s₀:=s,H₀:=H,env:=compEnvC scope (clo X.env.cells scope.names []) C X.env,outer:=X.stack,stack:=X.stack,ex:=ex,fn:=λ_=>false,pn:=[],xe:=λ_ _=>False }
def PTs(X:Cx)(bj:List RW)(t:TT):Prop:=
 ∀(aa:List (i_×Obj)) (s:c_) (Z:L2.St) (H:Hp) (Q:Bool->Hp->Prop),Inv X aa Z H s->t Z H Q →
  r_ (t_ X.prog X.w) X.A (forIn bj true λc r=>if r=true then do let ok ←XH c X.env (eval c X.env);pure (XU ok) else pure (XU r)) (TP X aa Z Q) X.xe s
theorem J5:PTs X [] (λ_ H Q=>Q true H):=λaa s Z H Q I h=>wpAny_tests_nil ⟨H,I,h⟩
theorem NY{c:RW}{t:TT}(h:PT X c t):PTs X [c] t:=λaa s Z H Q I q=>wpAny_tests_one (h aa s Z H Q I q)
abbrev calm(P:x_)(w:I_)(A:SH){α:Type}(m:Sem α)(Q:α->c_->Prop)(s:c_):Prop:=r_ (t_ P w) A m Q (λ_ _=>False) s
theorem calm.on{P:x_}{w:I_}{α β:Type}{m:Sem α}{f:α->Sem β}{Q:α->c_->Prop}{K:β->c_->Prop}{E:b_->c_->Prop}{s:c_}(h:calm P w A m Q s)(k:∀a s',Q a s'->r_ (t_ P w) A (f a) K E s'):r_ (t_ P w) A (m >>= f) K E s:=
 a_ (Sa h k λ_ _ no=>no.elim)
def TurnMeets(P:x_)(w:I_)(A:SH)(cJ i8:b_)(tg bz:RW)(bj:List RW)(env:Env)(Er:b_->c_->Prop)(Xs out:c_->Prop)(s:c_):Prop:=
 calm P w A (UN cJ) (λff s=>match ff with
  | none=>out s
  | some v=>calm P w A (U6 tg cJ v) (λ_ s=>calm P w A (Vj tg env v) (λ_ s =>
    calm P w A (forIn bj true λc r=>if r=true then do let ok ←XH c env (eval c env);pure (XU ok) else pure (XU r)) (λkD s =>
     cond kD (r_ (t_ P w) A (eval bz env) (λx s=>calm P w A (call (.builtin "list.append") [i8,x]) (λ_ s=>Xs s) s) (Yd (t_ P w) A env Er) s) (Xs s)) s) s) s) s
theorem Mz{M:Xr}{E E':b_->c_->Prop}{x:b_}{s:c_}(h:Yd M A env E x s)(f:∀x s,E x s->E' x s):Yd M A env E' x s:=Sa h (λ_ _ q=>f _ _ q) f
theorem HX{P:x_}{w:I_}{out:Result->c_->Prop}{s:c_}{bz kE:RW}{sc:Vh}{bp:Pos}{cJ i8:b_}{Er:b_->c_->Prop}(oZ:∀x s,Er x s->out (.error x) s)(W:Nat->c_->Prop)(gL:∀left s,W left s->TurnMeets P w A cJ i8 tg bz bj env Er (λs'=>∃XV,XV < left/\W XV s') (out (.ok .next)) s)(left:Nat)(start:W left s):
  T_ (t_ P w) A (.compLoop (.ListComp bz [⟨tg,kE,bj,0⟩] sc bp) 0 cJ i8 env) out s:=by
 refine codeAny_loop rfl W (λleft s here=>?_) left start;have turn:=gL left s here;unfold TurnMeets at turn;refine wpAny_noted ?_;rw[compTurn_list];refine a_ (WK (turn.on λff s1 h1=>?_));cases ff with
 | none=>exact d_ h1
 | some v=>exact calm.on h1 λ_ _ h2=>calm.on h2 λ_ _ h3=>calm.on h3 λkD s4 h4=>match kD,h4 with
  | false,h4=>d_ (And.intro rfl h4)
  | true,h4=>a_ (a_ (Sa h4 (λ_ _ h5=>calm.on h5 λ_ _ h6=>d_ (d_ (And.intro rfl h6))) λ_ _ z=>Mz z oZ))
def Clear(X:Cx)(aa:List (i_×Obj))(H:Hp)(C:i_):Prop:=H C=none/\C≠X.env.locals/\X.s₀.heap.objs.size<=C/\(∀x c,X.env.cells.lookup x=some c->c≠C)/\∀p∈X.pn++aa,p.1≠C
theorem Inv.clear{H:Hp}{s:c_}(I:Inv X aa Z H s)(c:Clear X aa H C)(hs:RV.SameBut C s.heap h'):Inv X aa Z H { s with heap:=h' }:=
 I.turned (t':=s.toks) (λb o hb e=>(hs.2 b hb).trans e) c.1 c.2.1 (.inr c.2.2.1) c.2.2.2.1 c.2.2.2.2
structure Within(X:Cx)(aa:List (i_×Obj))(Z:L2.St)(X1:Cx):Prop where
 back:∀{ps:List (i_×Obj)}{ah:L2.St}{H':Hp}{s':c_},Inv X1 ps ah H' s'->Inv X aa Z H' s'/\Clear X aa H' X1.env.locals
 old:∀b o,X.s₀.heap.get? b=some o->b∉X.ex->∃o',X1.s₀.heap.get? b=some o'/\b∉X1.ex
 pin:∀p∈X.pn++aa,∃o',X1.s₀.heap.get? p.1=some o'/\p.1∉X1.ex
def CompW(m:Nat)(J:It)(g:TG)(tt:TT)(te:TE)(Z:L2.St)(H1:Hp)(p:i_)(Q:VK):Prop:=
 ∃W:Nat->Nat->L2.St->Hp->Prop,(∃n,W 0 n (F_ m none++Z) (upd H1 p (.lst [])))/\∀i n ah H',W i n ah H' →
  (J.stop i H'/\Q (.ref p) H')\/(J.go i H'/\∀x H2,J.yld i H' x H2->g x ah H2 λaS H3=>tt aS H3 λb H4 =>
   if b=true then te aS H4 λy H5=>∃ag,H5 p=some (.lst ag)/\ag.length < A_/\∃n',n' < n/\W (i+1) n' aS (upd H5 p (.lst (ag++[y])))
   else ∃n',n' < n/\W (i+1) n' aS H4)
section
variable{bz iter:RW}{N':List Str}{g:TG}{tt:TT}{te:TE}
theorem Dp{Er:i_->b_->c_->Prop}{it:i_}{tn:Nat->RV->Prop}{J:It}{Q:VK}{E:b_->c_->Prop}(S:CompScope X.env.scope scope X.N N' m)(hc:X.calm=true)(hg:∀C s H ex,PG (cxC X scope N' C s H ex) tg g)(ht:∀C s H ex,PTs (cxC X scope N' C s H ex) bj tt)(he:∀C s H ex,Within X aa Z (cxC X scope N' C s H ex)->PE ((cxC X scope N' C s H ex).wish (Yd (t_ X.prog X.w) X.A (compEnvC scope (clo X.env.cells scope.names []) C X.env) (Er C))) bz te)(I2:Inv X aa Z H2 s2)(T:Turn X.prog X.w X.K tg J fp it tn)(eC:tn 0 s2.heap)(f2:∀b∈fp,FpOk X aa H2 b)(hw:∀p,H2 p=none->CompW m J g tt te Z H2 p Q):
  r_ (t_ X.prog X.w) X.A (newList []) (λag s3=>r_ (t_ X.prog X.w) X.A (newFunctionEnv scope X.env.globals (clo X.env.cells scope.names []) [] X.env.qual none .none (some X.env)) (λcU s4 =>
   T_ (t_ X.prog X.w) X.A (.compStart (.ListComp bz [⟨tg,iter,bj,0⟩] scope pos) 0 (.ref it) ag { cU with scope:=relabel scope X.env })
    (λr s'=>match r with | .ok _=>∃p H' mm,ag=.ref p/\s'.heap.Ns cU.locals mm/\Inv X aa Z H' s'/\Clear X aa H' cU.locals/\Q (.ref p) H' | .error x=>Er cU.locals x s') s4) E s3) E s2:=by
 refine R6 (wpAny_newFunctionEnv S.nocell (by intro y hy;simp at hy) (λh1 jY jZ=>?_) S.kind);dsimp only at jY jZ ⊢
 -- the new list
 have hp:H2 s2.heap.objs.size=none:=I2.hok.fresh (w_ _);obtain⟨W,⟨n0,w0⟩,turn⟩:=hw _ hp;obtain⟨p,hP⟩:∃p,p=s2.heap.objs.size:=⟨_,rfl⟩;obtain⟨s3,kF⟩:∃s3:c_,s3={ s2 with heap:=s2.heap.push { cls:=.type "list", dict:=none,data:=.seq ([]:List b_).toArray } }:=⟨_,rfl⟩;obtain⟨C,hC⟩:∃C,C=s3.heap.objs.size:=⟨_,rfl⟩;obtain⟨H3,kG⟩:∃H3,H3=upd H2 p (.lst []):=⟨_,rfl⟩;have h3:s3.heap=s2.heap.push { cls:=.type "list", dict:=none,data:=.seq ([]:List b_).toArray }:=by rw[kF]
 have gM:h1.Ns C (λx=>([]:List (Str×b_)).reverse.lookup x):=by rw[hC,h3];exact jY
 have o8:RV.SameBut C (s3.heap.push { cls:=.type "dict", data:=.dict #[] }) h1:=by rw[hC,h3];exact jZ
 rw[←hP] at hp;have o9:W 0 n0 (F_ m none++Z) H3:=by rw[kG,hP];exact w0
 have kH:∀i n ah H',W i n ah H'->(J.stop i H'/\Q (.ref p) H')\/(J.go i H'/\∀x H2,J.yld i H' x H2->g x ah H2 λaS H3=>tt aS H3 λb H4 =>
   if b=true then te aS H4 λy H5=>∃ag,H5 p=some (.lst ag)/\ag.length < A_/\∃n',n' < n/\W (i+1) n' aS (upd H5 p (.lst (ag++[y])))
   else ∃n',n' < n/\W (i+1) n' aS H4):=by rw[hP];exact turn
 have I3:Inv X aa Z H3 s3:=by
  rw[kG,kF,hP];exact I2.laid (t':=s2.toks) (λb u e=>f_ _ e) (w_ _) ⟨Sh _,[],0,.nil,z_ _ rfl⟩
 have fQ:tn 0 s3.heap:=T.keep _ _ _ eC λb _ o e=>by rw[h3];exact f_ _ e
 have f3:∀b∈fp,FpOk X aa H3 b:=λb hb=>by
  obtain⟨a0,a1⟩:=f2 b hb;refine⟨?_,a1⟩;obtain⟨o,e,_⟩:=T.obj _ _ eC b hb
  have ne:b≠p:=λz=>by
   have:=E_ e;rw[←hP,z] at this;exact SW _ this
  rw[kG,sN ne];exact a0
 -- the block's context
 have bI:∀x c,(clo X.env.cells scope.names []).lookup x=some c->X.env.cells.lookup x=some c:=λx c e=>by
  rcases xW (mem_of_lookup e) with z | ⟨z1,z2⟩
  ·cases z
  ·obtain⟨c',aW⟩:=I2.ok.has x (S.free _ z1 rfl);rw[aW] at z2;rw[z2];exact aW
 have fC:Clear X aa H3 C:=by
  refine⟨?_,?_,?_,λx c e z=>?_,λq hq z=>?_⟩
  ·exact I3.hok.fresh (W_ hC.symm)
  ·have:=I3.lt;rw[←hC] at this;exact Vk this
  ·have:=I3.sz;rw[←hC] at this;exact this
  ·obtain⟨v,q⟩:=I3.cell x c e;have:=q.lt;rw[←hC,z] at this;exact SW _ this
  ·have:=E_ (I3.pin q hq).1;rw[←hC,z] at this;exact SW _ this
 have old:∀b o,s3.heap.get? b=some o->h1.get? b=some o:=λb o e=>by
  have ne:b≠C:=λz=>by have:=E_ e;rw[←hC,z] at this;exact SW _ this
  exact(o8.2 b ne).trans (f_ _ e)
 have ok:(cxC X scope N' C s3 H3 fp).Ok:=by
  refine⟨I3.ok.mod,S.kind,I3.ok.glob,I3.ok.blt,W_ hC.symm,λx y c e1 e2=>I3.ok.inj x y c (bI x c e1) (bI y c e2),λx hx=>?_,λx c z=>(nomatch z),λz=>I3.ok.hd z,I3.ok.frames,.inl rfl,λb hb=>⟨λz=>?_,λx c e=>(f3 b hb).2.2.2.2.1 x c (bI x c e)⟩,I3.bs,y_ I3.ok.bsz I3.sz,λb o e hb=>?_,λb hb z=>?_,I3.stack,λb hb=>I3.stkFree b hb⟩
  ·-- has
   have dO:(relab scope X.env.scope).names.lookup x=some .cell\/(relab scope X.env.scope).names.lookup x=some .free:=hx
   have mem:∃k,(x,k)∈(relab scope X.env.scope).names/\(k=Su.cell\/k=Su.free):=by
    rcases dO with z | z
    ·exact⟨_,mem_of_lookup z,.inl rfl⟩
    ·exact⟨_,mem_of_lookup z,.inr rfl⟩
   obtain⟨k,hm,hk⟩:=mem;obtain⟨⟨n1,k1⟩,gN,e1⟩:=u_.mp hm;refine Ad (.inl ?_);dsimp only at e1;by_cases hcond:(k1 == Su.free&&X.env.scope.kind == ScopeKind.function&&X.env.scope.names.lookup n1 == some Su.cell)=true
   ·rw[if_pos hcond] at e1;cases e1
    have:k1=.free:=by
     simp only[J_,beq_iff_eq] at hcond;exact hcond.1.1
    rw[←this];exact gN
   ·rw[if_neg hcond] at e1;cases e1
    rcases hk with rfl | rfl
    ·exact absurd rfl (S.nocell _ gN)
    ·exact gN
  ·obtain⟨o,e,_⟩:=T.obj _ _ fQ b hb;have:=E_ e;rw[←hC] at this;have z':b=C:=z;rw[z'] at this;exact SW _ this
  ·obtain⟨a0,a1,a2,a3,_⟩:=f3 b hb
   rcases a3 with z | z
   ·exact I3.ok.noex b o e z
   ·exact absurd (K_ (E_ e) (y_ I3.ok.bsz z)) (SW _)
  ·have z':=I3.stkSub b z;obtain⟨a0,a1,a2,_⟩:=f3 b hb
   rcases B_.mp z' with e | e
   ·exact a1 e
   ·exact a2 e
 -- the block's first state
 have I4:Inv (cxC X scope N' C s3 H3 fp) [] (F_ m none++Z) H3 { s3 with heap:=h1,toks:=s3.toks+([]:List (Str×b_)).length }:=by
  obtain⟨mo,rO,mE⟩:=I3.loc;refine⟨ok,rfl,I3.bare,Un.kept old,⟨_,gM,λi x v e1 e2 e3=>?_⟩,λx c e=>?_,fC.1,λx c e=>I3.freeC x c (bI x c e),λq hq=>absurd (show q∈([]:List (i_×Obj)) from hq) (by simp),I3.hok.kept old,?_⟩
  ·have hi:m<=i:=by
    by_cases z:m<=i
    ·exact z
    ·rw[SM (by rw[RX];omega),S_] at e2;split at e2<;>cases e2
   rw[SJ (by rw[RX];exact hi),RX] at e2;have fg:N'[i]?=some x:=e1
   have cC:i - m < X.N.length:=by
    have:=(o_.mp fg).1;rw[S.len] at this;omega
   have e4:(N'.drop m)[i - m]?=some x:=by rw[UR];rw[show m+(i - m)=i from by omega];exact fg
   have e5:X.N[i - m]?=some X.N[i - m]:=g_ cC;have e6:((N'.drop m).zip X.N)[i - m]?=some (x,X.N[i - m]):=by rw[TX];exact⟨e4,e5⟩
   have mJ:Vis (relab scope X.env.scope) x:=e3
   rcases S.up _ (RZ e6) with z | ⟨z1,z2⟩
   ·have z':(relab scope X.env.scope).names.lookup x=none:=z
    rcases mJ with y | y | y<;>rw[z'] at y<;>cases y
   ·have pd:x=X.N[i - m]:=z1;have pe:(relab scope X.env.scope).names.lookup x≠some .local:=z2
    have mK:(relab scope X.env.scope).names.lookup x=some .cell\/(relab scope X.env.scope).names.lookup x=some .free:=by
     rcases mJ with y | y | y
     ·exact absurd y pe
     ·exact .inl y
     ·exact .inr y
    obtain⟨c,fV⟩:=ok.has x mK;have pf:=bI x c fV
    -- the name in the def's own frame
    have mem:(x,Su.free)∈scope.names:=by
     rcases xW (mem_of_lookup fV) with y | ⟨y,_⟩
     ·cases y
     ·exact y
    have mL:Vis X.env.scope x:=by
     rcases S.free _ mem rfl with y | y
     ·exact .inr (.inl y)
     ·exact .inr (.inr y)
    obtain⟨u,ru,l⟩:=mE (i - m) x v (by rw[e5,←pd]) e2 mL;refine⟨u,ru,.inr ⟨mK,c,fV,?_⟩⟩
    rcases l with⟨k,_⟩ | ⟨_,c',e',z'⟩
    ·have k':X.env.scope.names.lookup x=some .local:=k
     rcases S.free _ mem rfl with y | y<;>(have y':X.env.scope.names.lookup x=_:=y;rw[k'] at y';cases y')
    ·rw[pf] at e';cases e';exact z'.keeps old
  ·obtain⟨v,q⟩:=I3.cell x c (bI x c e);exact⟨v,q.keeps old⟩
  ·show(F_ m none++Z).length=N'.length;rw[v_,RX,S.len,I3.len]
 have dy:∀{H':Hp},(∀b∈fp,H' b=none)->∀b∈fp,FpOk (cxC X scope N' C s3 H3 fp) [] H' b:=λ{H'} hn b hb=>by
  refine⟨hn b hb,(ok.exf b hb).1,ok.exfs b hb,.inl hb,(ok.exf b hb).2,λq hq=>absurd (show q∈([]:List (i_×Obj)) from hq) (by simp)⟩
 -- what stands behind the block
 have back:∀{ps:List (i_×Obj)}{ah:L2.St}{H':Hp}{s':c_},Inv (cxC X scope N' C s3 H3 fp) ps ah H' s'->Inv X aa Z H' s'/\Clear X aa H' C:=λ{ps ah H' s'} J'=>by
  refine⟨I3.call' J'.os J'.base J'.hok J'.bare λb hb=>?_,J'.free,fC.2⟩;obtain⟨a0,a1,a2,a3,a4,a5⟩:=f3 b hb;exact⟨a3,a1,a4,a5⟩
 have i9:Within X aa Z (cxC X scope N' C s3 H3 fp):=⟨back,λb o e n=>by
  obtain⟨o',e'⟩:=I3.base.there b o e n;refine⟨o',e',λm=>?_⟩
  rcases(f3 b m).2.2.2.1 with z | z
  ·exact n z
  ·exact absurd (K_ (E_ e) z) (SW _),λq hq=>⟨_,(I3.pin q hq).1,λm=>(f3 q.1 m).2.2.2.2.2 q hq rfl⟩⟩
 have cB:∀s4:c_,s4={ s3 with heap:=h1,toks:=s3.toks+([]:List (Str×b_)).length } →
   T_ (t_ X.prog X.w) X.A (.compLoop (.ListComp bz [⟨tg,iter,bj,0⟩] scope pos) 0 (.ref it) (.ref p) (compEnvC scope (clo X.env.cells scope.names []) C X.env))
    (λr s'=>match r with | .ok _=>∃p' H' mm,b_.ref p=.ref p'/\s'.heap.Ns C mm/\Inv X aa Z H' s'/\Clear X aa H' C/\Q (.ref p') H' | .error x=>Er C x s') s4:=by
  rintro s4 rfl;refine HX (Er:=Er C) (λ_ _ z=>z) (λn s'=>∃i ah H',Inv (cxC X scope N' C s3 H3 fp) [] ah H' s'/\tn i s'.heap/\(∀b∈fp,H' b=none)/\W i n ah H') ?_ n0 ⟨0,_,_,I4,T.keep _ _ _ fQ λb _ o e=>old b o e,λb hb=>(f3 b hb).1,o9⟩;rintro n s5 ⟨i,c9,H5,I5,fR,iU,w5⟩;show TurnMeets _ _ _ _ _ _ _ _ _ _ _ _ _;unfold TurnMeets
  rcases kH i n c9 H5 w5 with⟨stop,qn⟩ | ⟨go,step⟩
  ·refine Sa (T.done (cxC X scope N' C s3 H3 fp) rfl rfl rfl hc i [] s5 c9 H5 (λ_ _=>False) I5 (dy iU) fR stop) (λr s6 ⟨hr,I6⟩=>?_) λ_ _ z=>z
   subst hr;obtain⟨mm,pg,_⟩:=I6.loc;obtain⟨b1,b2⟩:=back I6;exact⟨p,H5,mm,rfl,pg,b1,b2,qn⟩
  ·refine Sa (T.item (cxC X scope N' C s3 H3 fp) rfl rfl rfl hc i [] s5 c9 H5 (λ_ _=>False) I5 (dy iU) fR go) (λr s6 ⟨u,hr,h6⟩=>?_) λ_ _ z=>z
   subst hr;refine Sa h6 (λ_ s7 ⟨x,H7,I7,r7,y7,kI,ph⟩=>?_) λ_ _ z=>z
   have pi:=I7.pinned (dy ph) (T.obj _ _ kI);refine Sa (hg C s3 H3 fp _ s7 c9 H7 x u _ pi r7 (step x H7 y7)) (λ_ s8 ⟨gO,H8,I8,q8⟩=>?_) λ_ _ z=>z
   refine Sa (ht C s3 H3 fp _ s8 gO H8 _ I8 q8) (λok s9 ⟨H9,I9,q9⟩=>?_) λ_ _ z=>z
   have Xs:∀{mM:L2.St}{Ha:Hp}{sa:c_},Inv (cxC X scope N' C s3 H3 fp) ([]++pinsAt fp s7.heap) mM Ha sa->tn (i+1) sa.heap/\(∀b∈fp,Ha b=none):=λ{mM Ha sa} Ia=>by
    refine⟨T.keep _ _ _ kI λb hb o e=>(Ia.pin (b,o) (M_ _ (M_ _ (zE hb e)))).1,λb hb=>?_⟩;obtain⟨o,e,d⟩:=T.obj _ _ kI b hb;exact(Ia.pin (b,o) (M_ _ (M_ _ (zE hb e)))).2.1
   cases ok with
   | false =>
    rw[if_neg l_] at q9;obtain⟨n',eW,w9⟩:=q9;obtain⟨a1,a2⟩:=Xs I9;exact⟨n',eW,i+1,gO,H9,I9.unpinned,a1,a2,w9⟩
   | true =>
    rw[if_pos rfl] at q9;refine Sa (he C s3 H3 fp i9 _ s9 gO H9 _ (I9.wish _) q9) (λxv pj ⟨y,mO,kJ,pk,ag,mP,hl,n',eW,po⟩=>?_) λ_ _ z=>z
    replace kJ:=kJ.unwish;refine Sa (DA (X:=cxC X scope N' C s3 H3 fp) _ pj gO mO (.ref p) [y] (.ref p) [xv] (λ_ H'=>H'=upd mO p (.lst (ag++[y]))) kJ rfl (.cons pk .nil) ⟨p,ag,y,rfl,rfl,mP,hl,rfl⟩) (λ_ rP ⟨rQ,rR,mQ,_,pp⟩=>?_) λ_ _ z=>z
    subst pp;obtain⟨a1,a2⟩:=Xs mQ;exact⟨n',eW,i+1,gO,_,mQ.unpinned,a1,a2,po⟩
 subst hC;subst kF;subst hP;refine codeAny_compStart_list ?_ (T.self X.A 0 _ _ _ (T.keep _ _ _ fQ λb _ o e=>old b o e) ?_)
 ·exact cB _ rfl
 ·exact cB _ rfl
end
section
variable{bz iter:RW}{N':List Str}{g:TG}{tt:TT}{te:TE}{wi:TI}
noncomputable def tComp(m:Nat)(wi:TI)(g:TG)(tt:TT)(te:TE):TE:=λZ H Q=>wi Z H λJ H1=>∀p,H1 p=none->CompW m J g tt te Z H1 p Q
theorem OW(S:CompScope X.env.scope scope X.N N' m)(hc:X.calm=true)(hi:PI X tg iter wi)(hg:∀C s H ex,PG (cxC X scope N' C s H ex) tg g)(ht:∀C s H ex,PTs (cxC X scope N' C s H ex) bj tt)(he:∀C s H ex,PE (cxC X scope N' C s H ex) bz te)(hs:∀x,Sq iter X.env x=pure x:=by intros;rfl):PE X (.ListComp bz [⟨tg,iter,bj,0⟩] scope pos) (tComp m wi g tt te):=by
 intro aa s Z H Q I h;rw[eval_ListComp];refine VG (use:=none) rfl hs (Fy λn hn=>I.ok.has n (S.free _ hn rfl)) S.kind S.locals (thn (hi aa s Z H _ I h) λxv s1 h1=>thn h1 λiT s2 h2=>?_);obtain⟨it,fp,tn,J,H2,e,I2,T,eC,f2,hw⟩:=h2;subst e;refine thn (Dp (Er:=λ_ _ _=>False) (pos:=pos) (iter:=iter) S hc hg ht (λC s H ex _=>PE.nox (X:=(cxC X scope N' C s H ex).wish _) (he C s H ex)) I2 T eC f2 hw) λag s3 h3=>thn h3 λcU s4 h4=>Tl h4 λr s5 h5=>?_
 cases r with
 | error x=>exact h5.elim
 | ok fl =>
  obtain⟨p,H5,mm,rfl,hn,I5,cl,q⟩:=h5;exact⟨mm,hn,λh' bQ=>⟨.ref p,H5,Inv.clear I5 cl bQ,rfl,q⟩⟩
theorem CA(S:CompScope X.env.scope scope X.N N' m)(hc:X.calm=true)(hN:X.N.Nodup)(bw:X.N[i]?=some y)(hy:X.env.scope.names.lookup y=some .local)(hi:PI X tg iter wi)(hg:∀C s H ex,PG (cxC X scope N' C s H ex) tg g)(ht:∀C s H ex,PTs (cxC X scope N' C s H ex) bj tt)(he:∀C s H ex,PE (cxC X scope N' C s H ex) bz te)(gR:SK (.ListComp bz [⟨tg,iter,bj,0⟩] scope pos) (some (.Name y py)) cV.line X.env=pure true)(hs:∀x,Sq iter X.env x=pure x:=by intros;rfl):PS X (.Assign [.Name y py] (.ListComp bz [⟨tg,iter,bj,0⟩] scope pos) cV) (tAsg (tComp m wi g tt te) (gName i)):=by
 intro aa s Z H D I h;rw[exec_Assign_Name_used _ _ _ _ gR];refine a_ (WK (a_ ?_));show r_ _ X.A (do let _ ←comprehension (.ListComp bz [⟨tg,iter,bj,0⟩] scope pos) scope X.env _ (newList []) false (eval iter X.env) (some (Vj (.Name y py) X.env))) _ _ s
 refine a_ (thn (VG (use:=some (Vj (.Name y py) X.env)) (Q:=λ_ s'=>SP X aa D .next s') rfl hs (Fy λn hn=>I.ok.has n (S.free _ hn rfl)) S.kind S.locals
  (thn (hi aa s Z H _ I h) λxv s1 h1=>thn h1 λiT s2 h2=>?_)) λ_ s' hq=>d_ (d_ hq))
 obtain⟨it,fp,tn,J,H2,e,I2,T,eC,f2,hw⟩:=h2;subst e;refine thn (Dp (Er:=λ_ _ _=>False) (pos:=pos) (iter:=iter) S hc hg ht (λC s H ex _=>PE.nox (X:=(cxC X scope N' C s H ex).wish _) (he C s H ex)) I2 T eC f2 hw) λag s3 h3=>thn h3 λcU s4 h4=>Tl h4 λr s5 h5=>?_
 cases r with
 | error x=>exact h5.elim
 | ok fl =>
  obtain⟨p,H5,mm,rfl,hn,I5,cl,q⟩:=h5;show r_ _ X.A (Vj (.Name y py) X.env (.ref p)) _ _ s5;refine W4 (GJ (v:=.ref p) I5 hN bw (.inl hy) rfl (λs6 I6 ⟨a,pq,ha⟩=>?_) (.inr hy))
  have fP:cU.locals≠a:=by
   rcases ha with rfl | ha
   ·exact cl.2.1
   ·exact λz=>cl.2.2.2.1 y a ha z.symm
  refine⟨mm,hn.sameBut pq fP,λh' bQ=>?_⟩;have pt:Clear X aa H5 cU.locals:=cl;exact⟨_,H5,Inv.clear I6 pt bQ,q⟩
end
noncomputable def inC{α:Type}(m:Nat)(g:M α):M α:=λΓ=>match g (F_ m none++Γ) with
 | some (a,ae)=>some (a,ae.drop m)
 | none=>none
noncomputable def compM(az:D->M Unit)(ts:M Bool)(el:M D):List D->M (List D)
 | []=>ret []
 | d::ds=>bnd (az d) λ_=>bnd ts λb=>if b then bnd el λx=>bnd (compM az ts el ds) λr=>ret (x::r) else compM az ts el ds
noncomputable def compO(m:Nat)(it:M (List D))(az:D->M Unit)(ts:M Bool)(el:M D):M (List D):=bnd it λds=>if ds.length<=lim then inC m (compM az ts el ds) else λ_=>none
noncomputable def bUp(m:Nat)(B:BB):BB:=λi=>if i < m then none else B (i - m)
theorem ME{α:Type}{g:M α}{a:α}(h:inC m g Γ=some (a,ae)):∃Γ1,g (F_ m none++Γ)=some (a,Γ1)/\ae=Γ1.drop m:=by
 unfold inC at h;cases e:g (F_ m none++Γ) with
 | none=>rw[e] at h;cases h
 | some q=>obtain⟨b,Γ1⟩:=q;rw[e] at h;cases h;exact⟨Γ1,rfl,rfl⟩
section
variable{K:PySem.W.Frag}{B:BB}{H:Hp}{ah:L2.St}
theorem v6{α:Type}{l:List (Option α)}{m:Nat}{a:α}(h:(F_ m (none:Option α)++l)[i]?=some (some a)):m<=i/\l[i - m]?=some (some a):=by
 by_cases hi:m<=i
 ·rw[SJ (by rw[RX];exact hi),RX] at h;exact⟨hi,h⟩
 ·rw[SM (by rw[RX];omega),S_] at h;split at h<;>cases h
theorem GG{α:Type}{l:List (Option α)}{m:Nat}(hi:m<=i):(F_ m (none:Option α)++l)[i]?=l[i - m]?:=by
 rw[SJ (by rw[RX];exact hi),RX]
theorem Rep.up(r:Rep K B G I H Z Γ)(m:Nat):Rep K (bUp m B) G I H (F_ m none++Z) (F_ m none++Γ) where
 iH:=r.iH
 gH:=r.gH
 len:=by rw[v_,v_,RX,RX,r.len]
 slot:=λi q e=>by
  obtain⟨hi,e1⟩:=v6 e;obtain⟨v,e2,e3⟩:=r.slot _ q e1;exact⟨v,by rw[GG hi];exact e2,e3⟩
 dist:=λi j q q' v e e' mm kK s1 s2=>by
  obtain⟨hi,e1⟩:=v6 e;obtain⟨hj,e2⟩:=v6 e';have:=r.dist _ _ q q' v e1 e2 mm kK (v6 s1).2 (v6 s2).2;omega
 bor:=λi ds e=>by
  obtain⟨hi,e1⟩:=v6 e;rw[GG hi,r.bor _ ds e1];unfold bUp;rw[if_neg (by omega)]
theorem Rep.down(r:Rep K (bUp m B) G I H ah ae)(hs:ah.drop m=Z):Rep K B G I H Z (ae.drop m):=by
 subst hs
 exact {
  iH:=r.iH,gH:=r.gH
  len:=by rw[TH,TH,r.len]
  slot:=λi q e=>by
   rw[UR] at e;obtain⟨v,e2,e3⟩:=r.slot _ q e;exact⟨v,by rw[UR];exact e2,e3⟩
  dist:=λi j q q' v e e' mm kK s1 s2=>by
   rw[UR] at e e' s1 s2;have:=r.dist _ _ q q' v e e' mm kK s1 s2;omega
  bor:=λi ds e=>by
   rw[UR] at e ⊢;rw[r.bor _ ds e];unfold bUp;rw[if_neg (by omega)]
   congr 1
   omega }
theorem Rep.guard(r:Rep K B G I H Z Γ){p:i_}(h:H p=none)(o:HO):Rep K B (upd G p o) I (upd H p o) Z Γ where
 iH:=r.iH.trans (tW h o)
 gH:=Eg r.gH o
 len:=r.len
 slot:=λi q e=>by
  obtain⟨v,e1,e2⟩:=r.slot i q e;refine⟨v,e1,?_⟩
  have mt:∀ds,Mt K G I H ds v->Mt K (upd G p o) I (upd H p o) ds v:=λds hh=>by
   obtain⟨p2,xs,h1,h2,h3,h4,h5⟩:=hh;have ne:p2≠p:=uQ h2 h;exact⟨p2,xs,h1,by rw[sN ne];exact h2,h3,by rw[sN ne];exact h4,h5⟩
  cases q with
  | val d=>exact e2
  | dic ds =>
   obtain⟨p2,xs,h1,h2,h3,h4,h5⟩:=e2;have ne:p2≠p:=uQ h2 h;exact⟨p2,xs,h1,by rw[sN ne];exact h2,h3,by rw[sN ne];exact h4,h5⟩
  | own ds=>exact mt ds e2
  | bor ds=>exact mt ds e2
  | fro ds =>
   obtain⟨p2,xs,f1,f2,f3,f4⟩:=e2;have ne:p2≠p:=uQ (r.iH _ _ f2) h;exact⟨p2,xs,f1,f2,by rw[sN ne];exact f3,f4⟩
 dist:=r.dist
 bor:=r.bor
theorem Rep.reguard{p:i_}{o':HO}(r:Rep K B (upd G p o) I H Z Γ)(hi:I p=none):Rep K B (upd G p o') I (upd H p o') Z Γ where
 iH:=λb u q=>by
  have ne:b≠p:=λz=>by subst z;rw[hi] at q;cases q
  rw[sN ne];exact r.iH b u q
 gH:=λb u q=>by
  by_cases e:b=p
  ·subst e;rw[tm] at q ⊢;exact q
  ·rw[sN e] at q ⊢;exact r.gH b u (by rw[sN e];exact q)
 len:=r.len
 slot:=λi q e=>by
  obtain⟨v,e1,e2⟩:=r.slot i q e;refine⟨v,e1,?_⟩
  have mt:∀ds,Mt K (upd G p o) I H ds v->Mt K (upd G p o') I (upd H p o') ds v:=λds hh=>by
   obtain⟨p2,xs,h1,h2,h3,h4,h5⟩:=hh;have ne:p2≠p:=λz=>by subst z;rw[tm] at h4;cases h4
   rw[sN ne] at h4;exact⟨p2,xs,h1,by rw[sN ne];exact h2,h3,by rw[sN ne];exact h4,h5⟩
  cases q with
  | val d=>exact e2
  | dic ds =>
   obtain⟨p2,xs,h1,h2,h3,h4,h5⟩:=e2;have ne:p2≠p:=λz=>by subst z;rw[tm] at h4;cases h4
   rw[sN ne] at h4;exact⟨p2,xs,h1,by rw[sN ne];exact h2,h3,by rw[sN ne];exact h4,h5⟩
  | own ds=>exact mt ds e2
  | bor ds=>exact mt ds e2
  | fro ds =>
   obtain⟨p2,xs,f1,f2,f3,f4⟩:=e2;have ne:p2≠p:=λz=>by rw[z,hi] at f2;cases f2
   rw[sN ne] at f3;exact⟨p2,xs,f1,f2,by rw[sN ne];exact f3,f4⟩
 dist:=r.dist
 bor:=r.bor
theorem Rep.unguard{p:i_}(r:Rep K B (upd G p o) I H Z Γ)(hg:G p=none):Rep K B G I H Z Γ/\Apart Z Γ p:=by
 have ap:Apart Z Γ p:=λj q e mm s=>by
  obtain⟨v,e1,e2⟩:=r.slot j q e;obtain⟨p2,xs,h1,h2,h3,h4⟩:=e2.mt mm;rw[e1,h1] at s;cases s;rw[tm] at h4;cases h4
 refine⟨{ iH:=r.iH,gH:=(tW hg o).trans r.gH,len:=r.len,slot:=λi q e=>?_,dist:=r.dist,bor:=r.bor },ap⟩;obtain⟨v,e1,e2⟩:=r.slot i q e;refine⟨v,e1,?_⟩
 have mt:∀ds,Mt K (upd G p o) I H ds v->Mt K G I H ds v:=λds hh=>by
  obtain⟨p2,xs,h1,h2,h3,h4,h5⟩:=hh;have ne:p2≠p:=λz=>by subst z;rw[tm] at h4;cases h4
  rw[sN ne] at h4;exact⟨p2,xs,h1,h2,h3,h4,h5⟩
 cases q with
 | val d=>exact e2
 | dic ds =>
  obtain⟨p2,xs,h1,h2,h3,h4,h5⟩:=e2;have ne:p2≠p:=λz=>by subst z;rw[tm] at h4;cases h4
  rw[sN ne] at h4;exact⟨p2,xs,h1,h2,h3,h4,h5⟩
 | own ds=>exact mt ds e2
 | bor ds=>exact mt ds e2
 | fro ds =>
  obtain⟨p2,xs,f1,f2,f3,f4⟩:=e2;have ne:p2≠p:=λz=>by rw[z,tm] at f3;cases f3
  rw[sN ne] at f3;exact⟨p2,xs,f1,f2,f3,f4⟩
theorem Grow.unguard{p:i_}(g:Grow (upd G p o) I I'):Grow G I I':=⟨g.up,λb u q=>by
 rcases g.new b u q with z | z
 ·exact .inl z
 ·by_cases e:b=p
  ·subst e;rw[tm] at z;cases z
  ·rw[sN e] at z;exact .inr z⟩
theorem Grow.keepsOut{p:i_}(g:Grow (upd G p o) I I')(hi:I p=none):I' p=none:=by
 cases e:I' p with
 | none=>rfl
 | some u =>
  rcases g.new p u e with z | z
  ·rw[hi] at z;cases z
  ·rw[tm] at z;cases z
end
section
variable{B:BB}{bz iter:RW}{N':List Str}{ts:M Bool}
def TDs(X:Cx)(B:BB)(bj:List RW)(g:M Bool):Prop:=PTs X bj (tTD X.K B g)
theorem uk:TDs X B [] (ret true):=λaa s Z H Q I h=>J5 aa s Z H Q I (by
 obtain⟨G,I,Γ,b,ae,r,e1,k⟩:=h;cases e1
 exact k _ _ r (Grow.refl _ _))
theorem vn{c:RW}{g:M Bool}(h:TD X B c g):TDs X B [c] g:=NY h
theorem B5{K:PySem.W.Frag}:∀Z H Q,tO K B (compO m it az ts el) Z H Q->tComp m (tI K B it) (tGD K (bUp m B) m az) (tTD K (bUp m B) ts) (tD K (bUp m B) el) Z H Q:=λZ H Q q=>by
 obtain⟨G,I,Γ,rs,ae,r,e1,k⟩:=q;obtain⟨ds,Γ1,e2,e3⟩:=rK e1;by_cases fD:ds.length<=lim
 case neg=>rw[if_neg fD] at e3;cases e3
 rw[if_pos fD] at e3;obtain⟨de,e4,rfl⟩:=ME e3;refine⟨G,I,Γ,ds,Γ1,r,e2,λJ H1 I1 r1 g1 y p hp=>?_⟩;have gp:=r1.gFree hp;have ip:=r1.iFree hp
 refine⟨λi n ah H'=>∃ag ad I2 Γ2 ao,Rep K (bUp m B) (upd G p (.lst ag)) I2 H' ah Γ2/\Grow G I1 I2/\I2 p=none/\IsA K I2 ad ag/\ah.drop m=Z/\compM az ts el (ds.drop i) Γ2=some (ao,de)/\ad++ao=rs/\ad.length<=i/\i<=ds.length/\n=ds.length - i,
  ⟨ds.length,[],[],I1,_,rs,(r1.up m).guard hp _,Grow.refl _ _,ip,IsA.nil,by rw[List.drop_append_of_le_length (by simp),Uz (by simp),List.nil_append],by simpa using e4,rfl,Sh _,Sh _,rfl⟩,?_⟩
 rintro i n aS H2 ⟨ag,ad,I2,Γ2,ao,r2,g2,kL,ha,hs,e5,rfl,rS,hi,rfl⟩;obtain⟨yg,ys⟩:=y i H2 (g2.up.trans r2.iH);by_cases bD:i < ds.length
 ·have hd:ds.drop i=ds[i]::ds.drop (i+1):=R7 bD;obtain⟨go,yld⟩:=yg ds[i] (g_ bD);rw[hd,compM] at e5;obtain⟨u,aM,e6,e7⟩:=rK e5;obtain⟨b,aP,e8,e9⟩:=rK e7;refine .inr ⟨go,λx H3 hy=>?_⟩
  have main:∀I3,Rep K (bUp m B) (upd G p (.lst ag)) I3 H3 aS Γ2->Grow (upd G p (.lst ag)) I2 I3->Is K I3 ds[i] x->tGD K (bUp m B) m az x aS H3 λaS H3=>tTD K (bUp m B) ts aS H3 λb H4 =>
    if b=true then tD K (bUp m B) el aS H4 λy H5=>∃ag,H5 p=some (.lst ag)/\ag.length < A_/\∃n',n' < ds.length - i/\∃acc_1 ad_1 I2 Γ2 rest_1,Rep K (bUp m B) (upd G p (.lst acc_1)) I2 (upd H5 p (.lst (ag++[y]))) aS Γ2/\Grow G I1 I2/\I2 p=none/\IsA K I2 ad_1 acc_1/\aS.drop m=Z/\compM az ts el (ds.drop (i+1)) Γ2=some (rest_1,de)/\ad_1++rest_1=ad++ao/\ad_1.length<=i+1/\i+1<=ds.length/\n'=ds.length - (i+1)
    else ∃n',n' < ds.length - i/\∃ag ad_1 I2 Γ2 rest_1,Rep K (bUp m B) (upd G p (.lst ag)) I2 H4 aS Γ2/\Grow G I1 I2/\I2 p=none/\IsA K I2 ad_1 ag/\aS.drop m=Z/\compM az ts el (ds.drop (i+1)) Γ2=some (rest_1,de)/\ad_1++rest_1=ad++ao/\ad_1.length<=i+1/\i+1<=ds.length/\n'=ds.length - (i+1):=by
   intro I3 r3 g3 hx;refine⟨_,I3,Γ2,ds[i],aM,r3,hx,e6,λdN H4 I4 r4 g4 pw=>⟨_,I4,aM,b,aP,r4,e8,λH5 I5 r5 g5=>?_⟩⟩;have ja:=g3.trans (g4.trans g5);have bQ:dN.drop m=Z:=pw.trans hs;cases b with
   | false =>
    refine iteF ⟨ds.length - (i+1),by omega,ag,ad,I5,aP,ao,r5,g2.trans ja.unguard,ja.keepsOut kL,ha.mono ja.up,bQ,by simpa using e9,rfl,by omega,bD,rfl⟩
   | true =>
    simp only[if_true] at e9;obtain⟨xd,eG,f1,f2⟩:=rK e9;obtain⟨rr,gS,f3,f4⟩:=rK f2;cases f4;refine iteT ⟨_,I5,aP,xd,eG,r5,f1,λyv H6 I6 r6 g6 px=>⟨ag,r6.gH _ _ tm,?_,ds.length - (i+1),by omega,ag++[yv],ad++[xd],I6,eG,rr,?_⟩⟩
    ·rw[←ha.length];have h1:lim < A_:=by rw[Sy];decide
     omega
    ·have kN:=ja.trans g6;have mR:=kN.keepsOut kL;exact⟨r6.reguard mR,g2.trans kN.unguard,mR,IsA.append (ha.mono kN.up) (IsA.cons px IsA.nil),bQ,f3,by rw[Tp];rfl,by rw[v_,UJ];omega,bD,rfl⟩
  rcases yld x H3 hy with⟨rfl,hx⟩ | ⟨p2,es,xs,dA,rfl,cG,rfl,hx⟩
  ·exact main I2 r2 (Grow.refl _ _) (hx.mono g2.up)
  ·refine main _ (r2.alloc cG _) (r2.growAlloc cG _) ?_;rw[dA];exact Is.tup (SqT.of tm) ((hx.mono g2.up).mono (tW (r2.iFree cG) _))
 ·have cC:i=ds.length:=by omega
  subst cC;rw[VR] at e5;cases e5;rw[SO] at k;refine .inl ⟨ys (w_ _),?_⟩;have rd:=Rep.down r2 hs;obtain⟨ru,ap⟩:=rd.unguard gp;exact k p ag H2 I2 ru (g1.trans g2) (r2.gH _ _ tm) kL gp ap ha
theorem t9(S:CompScope X.env.scope scope X.N N' m)(hc:X.calm=true)(hi:ITD X B tg iter it)(hg:∀C s H ex,GD (cxC X scope N' C s H ex) (bUp m B) m tg az)(ht:∀C s H ex,TDs (cxC X scope N' C s H ex) (bUp m B) bj ts)(he:∀C s H ex,ED (cxC X scope N' C s H ex) (bUp m B) bz el)(hs:∀x,Sq iter X.env x=pure x:=by intros;rfl):EO X B (.ListComp bz [⟨tg,iter,bj,0⟩] scope pos) (compO m it az ts el):=PE.imp (OW (g:=tGD X.K (bUp m B) m az) (tt:=tTD X.K (bUp m B) ts) (te:=tD X.K (bUp m B) el) S hc hi hg ht he hs) B5
theorem xb(S:CompScope X.env.scope scope X.N N' m)(hc:X.calm=true)(hN:X.N.Nodup)(hi:ITD X B tg iter it)(hg:∀C s H ex,GD (cxC X scope N' C s H ex) (bUp m B) m tg az)(ht:∀C s H ex,TDs (cxC X scope N' C s H ex) (bUp m B) bj ts)(he:∀C s H ex,ED (cxC X scope N' C s H ex) (bUp m B) bz el)(bw:X.N[i]?=some y:=by rfl)(hy:X.env.scope.names.lookup y=some .local:=by rfl)(gR:SK (.ListComp bz [⟨tg,iter,bj,0⟩] scope pos) (some (.Name y py)) cV.line X.env=pure true:=by rfl)(hs:∀x,Sq iter X.env x=pure x:=by intros;rfl):SD X B (.Assign [.Name y py] (.ListComp bz [⟨tg,iter,bj,0⟩] scope pos) cV) (setV i (frz (compO m it az ts el))):=PS.imp (CA (g:=tGD X.K (bUp m B) m az) (tt:=tTD X.K (bUp m B) ts) (te:=tD X.K (bUp m B) el) S hc hN bw hy hi hg ht he gR hs) λE Z H q=>by
 obtain⟨G,I,Γ,f,ae,r,e1,k⟩:=q;obtain⟨d1,Γ1,e2,e3⟩:=rK e1;obtain⟨d2,Γ2,e4,e5⟩:=rK e3;cases e5;obtain⟨hl,rfl⟩:=vy e4;obtain⟨ds,aM,e6,e7⟩:=rK e2;cases e7;refine B5 Z H _ ⟨G,I,Γ,ds,_,r,e6,λp xs H1 I1 r1 g1 h1 h2 h3 h4 h5=>?_⟩;refine k _ H1 _ ((r1.freeze h1 h2 h4).store (by rw[r1.len];exact hl) (Is.lst (RdK.of tm) (h5.mono (tW h2 _))) (λm=>nomatch m) (λ_ z=>nomatch z)) (g1.trans (growFreeze h2 h3))
end
mutual
noncomputable def deq:D->D->Bool
 | .non,.non=>true
 | .bl a,.bl b=>a == b
 | .bl a,.int j=>(if a then(1:Int) else 0) == j
 | .int i,.bl b=>i == (if b then(1:Int) else 0)
 | .int i,.int j=>i == j
 | .str x,.str y=>x == y
 | .tup xs,.tup ys=>deqA xs ys
 | .lst xs,.lst ys=>deqA xs ys
 | .exc _ _,.exc _ _=>true
 | _,_=>false
noncomputable def deqA:List D->List D->Bool
 | [],[]=>true
 | x::xs,y::ys=>deq x y&&deqA xs ys
 | _,_=>false
end
mutual
noncomputable def dep:D->Nat
 | .tup xs=>depA xs+1
 | .lst xs=>depA xs+1
 | .exc _ _=>1000
 | _=>0
noncomputable def depA:List D->Nat
 | []=>0
 | x::xs=>max (dep x) (depA xs)
end
mutual
theorem vG:∀a:D,deq a a=true
 | .non=>by rw[deq]
 | .bl b=>by rw[deq];exact beq_self_eq_true b
 | .int b=>by rw[deq];exact beq_self_eq_true b
 | .str b=>by rw[deq];exact beq_self_eq_true b
 | .tup xs=>by rw[deq];exact wS xs
 | .lst xs=>by rw[deq];exact wS xs
 | .exc _ _=>by rw[deq]
theorem wS:∀a:List D,deqA a a=true
 | []=>by rw[deqA]
 | x::xs=>by rw[deqA,vG x,wS xs];rfl
end
theorem t7:∀{xs:List D}{x:D},x∈xs->dep x<=depA xs
 | y::ys,x,h=>by
  rw[depA]
  rcases B_.mp h with rfl | h
  ·omega
  ·have:=t7 h;omega
theorem xX:∀(xs ys:List D),((Sx (min xs.length ys.length)).all (λj=>deq (xs.getD j .non) (ys.getD j .non))&&(xs.length == ys.length))=deqA xs ys
 | [],[]=>by rw[deqA];rfl
 | [],y::ys=>by rw[deqA]<;>simp
 | x::xs,[]=>by rw[deqA]<;>simp
 | x::xs,y::ys=>by
  have ih:=xX xs ys;have e:min (x::xs).length (y::ys).length=min xs.length ys.length+1:=by simp only[R8];omega
  rw[deqA,←ih,e,TB,S0,List.all_map]
  have e2:((x::xs).length == (y::ys).length)=(xs.length == ys.length):=by
   simp only[R8];cases h:xs.length == ys.length
   ·simp at h ⊢;omega
   ·simp at h ⊢;omega
  rw[e2,Bool.and_assoc];rfl
theorem K9{xs:List D}(h:xs.length≠ys.length):deqA xs ys=false:=by
 rw[←xX];have:(xs.length == ys.length)=false:=by simpa using h
 rw[this,Wm]
section
variable{H:Hp}{s:c_}
theorem IsA.getU{K:PySem.W.Frag}(h:IsA K I ds xs)(r:Vals xs us)(hj:j < us.toArray.size):∃v,RelV v us.toArray[j]/\Is K I (ds.getD j .non) v:=by
 have h1:=h.length;have h2:=r.length;have bE:j < us.length:=by simpa using hj
 have hd:ds[j]?=some ds[j]:=g_ (by omega);obtain⟨v,e1,e2⟩:=h.get hd;obtain⟨u,e3,e4⟩:=r.get e1
 have e5:us.toArray[j]=u:=by
  rw[g_ bE] at e3;simpa using e3
 refine⟨v,by rw[e5];exact e4,?_⟩;rw[h_,hd];exact e2
theorem rdL{K:PySem.W.Frag}(h:RdK K H a xs):SqL K H a xs:=h.sq
mutual
theorem wQ(I:Inv X aa Z H s):∀{a b:D}{v:V},dep a < 1000->dep b < 1000->Is X.K H a v->Is X.K H b v->a=b
 | .non,b,v,da,db,h,h'=>by
  have e:=uE h;subst e;cases b<;>first | rfl | (simp[dep] at db;done) | (rw[Is] at h';obtain⟨_,_,e,_⟩:=h';cases e) | (rw[Is] at h';cases h')
 | .bl x,b,v,da,db,h,h'=>by
  have e:=tY h;subst e;cases b<;>first | (simp[dep] at db;done) | (rw[Is] at h';obtain⟨_,_,e,_⟩:=h';cases e) | (rw[Is] at h';cases h';rfl) | (rw[Is] at h';cases h')
 | .int x,b,v,da,db,h,h'=>by
  have e:=sQ h;subst e;cases b<;>first | (simp[dep] at db;done) | (rw[Is] at h';obtain⟨_,_,e,_⟩:=h';cases e) | (rw[Is] at h';cases h';rfl) | (rw[Is] at h';cases h')
 | .str x,b,v,da,db,h,h'=>by
  have e:=uG h;subst e;cases b<;>first | (simp[dep] at db;done) | (rw[Is] at h';obtain⟨_,_,e,_⟩:=h';cases e) | (rw[Is] at h';cases h';rfl) | (rw[Is] at h';cases h')
 | .tup ds,b,v,da,db,h,h'=>by
  obtain⟨p,xs,rfl,h1,h2⟩:=sY h;cases b with
  | tup es =>
   obtain⟨p',bV,e,h3,h4⟩:=sY h';cases e;have:=I.tuple_inj h1 h3;subst this;rw[Bn I (by rw[dep] at da;omega) (by rw[dep] at db;omega) h2 h4]
  | lst es =>
   obtain⟨p',bV,e,h3,h4⟩:=sU h';cases e;obtain⟨i1,_,t1,_⟩:=I.tuple h1;obtain⟨i2,_,t2,_⟩:=I.list (rdL h3);exact absurd rfl (ne_of_list_tuple t2.isList t1)
  | exc _ _=>simp[dep] at db
  | _=>rw[Is] at h';cases h'
 | .lst ds,b,v,da,db,h,h'=>by
  obtain⟨p,xs,rfl,h1,h2⟩:=sU h;cases b with
  | lst es =>
   obtain⟨p',bV,e,h3,h4⟩:=sU h';cases e;have:=I.list_inj (rdL h1) (rdL h3);subst this;rw[Bn I (by rw[dep] at da;omega) (by rw[dep] at db;omega) h2 h4]
  | tup es =>
   obtain⟨p',bV,e,h3,h4⟩:=sY h';cases e;obtain⟨i1,_,t1,_⟩:=I.tuple h3;obtain⟨i2,_,t2,_⟩:=I.list (rdL h1);exact absurd rfl (ne_of_list_tuple t2.isList t1)
  | exc _ _=>simp[dep] at db
  | _=>rw[Is] at h';cases h'
 | .exc _ _,b,v,da,_,_,_=>by simp[dep] at da
theorem Bn(I:Inv X aa Z H s):∀{a b:List D}{v:List V},depA a < 1000->depA b < 1000->IsA X.K H a v->IsA X.K H b v->a=b
 | [],b,v,_,_,h,h'=>by
  have e:=h.nil_inv;subst e;cases b with
  | nil=>rfl
  | cons d r=>obtain⟨_,_,e,_⟩:=h'.cons_inv;cases e
 | d::ds,b,v,da,db,h,h'=>by
  obtain⟨x,r,rfl,h1,h2⟩:=h.cons_inv;cases b with
  | nil=>have:=h'.nil_inv;cases this
  | cons e es =>
   obtain⟨x',r',e',h3,h4⟩:=h'.cons_inv;cases e';rw[depA] at da db;rw[wQ I (by omega) (by omega) h1 h3,Bn I (by omega) (by omega) h2 h4]
end
open PySem.SeqAt in
theorem Fx(I:Inv X aa Z H s)(hu:A.units < S8){a b:D}{x y:V}{v:b_}(da:dep a < 1000)(db:dep b < 1000)(ha:Is X.K H a x)(hb:Is X.K H b y)(ru:RelV x u)(rv:RelV y v)(ht:∀xs ys,a=.tup xs->b=.tup ys->RcAt A s u v (deq a b)/\XA A s u v (deq a b)/\Xp A s u v (!deq a b))(hl:∀xs ys,a=.lst xs->b=.lst ys->RcAt A s u v (deq a b)/\XA A s u v (deq a b)/\Xp A s u v (!deq a b)):RcAt A s u v (deq a b)/\XA A s u v (deq a b)/\Xp A s u v (!deq a b):=by
 cases a with
 | exc _ _=>simp[dep] at da
 | non =>
  have e:=uE ha;subst e;cases ru;cases b with
  | exc _ _=>simp[dep] at db
  | non=>have e:=uE hb;subst e;cases rv;rw[deq];exact⟨.none_none,.same _,.none_none⟩
  | bl j=>have e:=tY hb;subst e;cases rv;rw[deq]<;>first | exact⟨.none_bool _,.none_bool _,.none_bool _⟩ | (intros;contradiction)
  | int j=>have e:=sQ hb;subst e;obtain⟨t,rfl⟩:=rv;rw[deq]<;>first | exact⟨.none_int _ _,.none_int _ _,.none_int _ _⟩ | (intros;contradiction)
  | str j=>have e:=uG hb;subst e;obtain⟨t,rfl⟩:=rv;rw[deq]<;>first | exact⟨.none_str _ _,.none_str _ _,.none_str _ _⟩ | (intros;contradiction)
  | tup j =>
   obtain⟨p,xs,rfl,h1,h2⟩:=sY hb;cases rv;obtain⟨ac,_,t,_⟩:=I.tuple h1;rw[deq]<;>first | exact⟨.none_tuple t hu,.none_tuple t hu,.none_tuple t hu⟩ | (intros;contradiction)
  | lst j =>
   obtain⟨p,xs,rfl,h1,h2⟩:=sU hb;cases rv;obtain⟨ac,_,t,_⟩:=I.list (rdL h1);have t:=t.isList;rw[deq]<;>first | exact⟨.none_list t hu,.none_list t hu,.none_list t hu⟩ | (intros;contradiction)
 | bl i =>
  have e:=tY ha;subst e;cases ru;cases b with
  | exc _ _=>simp[dep] at db
  | non=>have e:=uE hb;subst e;cases rv;rw[deq]<;>first | exact⟨.bool_none _,.bool_none _,.bool_none _⟩ | (intros;contradiction)
  | bl j=>have e:=tY hb;subst e;cases rv;rw[deq];exact⟨.bool_bool _ _,.bool_bool _ _,.bool_bool _ _⟩
  | int j=>have e:=sQ hb;subst e;obtain⟨t,rfl⟩:=rv;rw[deq];exact⟨.bool_int _ _ _,.bool_int _ _ _,.bool_int _ _ _⟩
  | str j=>have e:=uG hb;subst e;obtain⟨t,rfl⟩:=rv;rw[deq]<;>first | exact⟨.bool_str _ _ _,.bool_str _ _ _,.bool_str _ _ _⟩ | (intros;contradiction)
  | tup j =>
   obtain⟨p,xs,rfl,h1,h2⟩:=sY hb;cases rv;obtain⟨ac,_,t,_⟩:=I.tuple h1;rw[deq]<;>first | exact⟨.bool_tuple _ t hu,.bool_tuple _ t hu,.bool_tuple _ t hu⟩ | (intros;contradiction)
  | lst j =>
   obtain⟨p,xs,rfl,h1,h2⟩:=sU hb;cases rv;obtain⟨ac,_,t,_⟩:=I.list (rdL h1);have t:=t.isList;rw[deq]<;>first | exact⟨.bool_list _ t hu,.bool_list _ t hu,.bool_list _ t hu⟩ | (intros;contradiction)
 | int i =>
  have e:=sQ ha;subst e;obtain⟨t0,rfl⟩:=ru;cases b with
  | exc _ _=>simp[dep] at db
  | non=>have e:=uE hb;subst e;cases rv;rw[deq]<;>first | exact⟨.int_none _ _,.int_none _ _,.int_none _ _⟩ | (intros;contradiction)
  | bl j=>have e:=tY hb;subst e;cases rv;rw[deq];exact⟨.int_bool _ _ _,.int_bool _ _ _,.int_bool _ _ _⟩
  | int j=>have e:=sQ hb;subst e;obtain⟨t,rfl⟩:=rv;rw[deq];exact⟨.int_int _ _ _ _,.int_int _ _ _ _,.int_int _ _ _ _⟩
  | str j=>have e:=uG hb;subst e;obtain⟨t,rfl⟩:=rv;rw[deq]<;>first | exact⟨.int_str _ _ _ _,.int_str _ _ _ _,.int_str _ _ _ _⟩ | (intros;contradiction)
  | tup j =>
   obtain⟨p,xs,rfl,h1,h2⟩:=sY hb;cases rv;obtain⟨ac,_,t,_⟩:=I.tuple h1;rw[deq]<;>first | exact⟨.int_tuple _ _ t hu,.int_tuple _ _ t hu,.int_tuple _ _ t hu⟩ | (intros;contradiction)
  | lst j =>
   obtain⟨p,xs,rfl,h1,h2⟩:=sU hb;cases rv;obtain⟨ac,_,t,_⟩:=I.list (rdL h1);have t:=t.isList;rw[deq]<;>first | exact⟨.int_list _ _ t hu,.int_list _ _ t hu,.int_list _ _ t hu⟩ | (intros;contradiction)
 | str i =>
  have e:=uG ha;subst e;obtain⟨t0,rfl⟩:=ru;cases b with
  | exc _ _=>simp[dep] at db
  | non=>have e:=uE hb;subst e;cases rv;rw[deq]<;>first | exact⟨.str_none _ _,.str_none _ _,.str_none _ _⟩ | (intros;contradiction)
  | bl j=>have e:=tY hb;subst e;cases rv;rw[deq]<;>first | exact⟨.str_bool _ _ _,.str_bool _ _ _,.str_bool _ _ _⟩ | (intros;contradiction)
  | int j=>have e:=sQ hb;subst e;obtain⟨t,rfl⟩:=rv;rw[deq]<;>first | exact⟨.str_int _ _ _ _,.str_int _ _ _ _,.str_int _ _ _ _⟩ | (intros;contradiction)
  | str j=>have e:=uG hb;subst e;obtain⟨t,rfl⟩:=rv;rw[deq];exact⟨.str_str _ _ _ _,.str_str _ _ _ _,.str_str _ _ _ _⟩
  | tup j =>
   obtain⟨p,xs,rfl,h1,h2⟩:=sY hb;cases rv;obtain⟨ac,_,t,_⟩:=I.tuple h1;rw[deq]<;>first | exact⟨.str_tuple _ _ t hu,.str_tuple _ _ t hu,.str_tuple _ _ t hu⟩ | (intros;contradiction)
  | lst j =>
   obtain⟨p,xs,rfl,h1,h2⟩:=sU hb;cases rv;obtain⟨ac,_,t,_⟩:=I.list (rdL h1);have t:=t.isList;rw[deq]<;>first | exact⟨.str_list _ _ t hu,.str_list _ _ t hu,.str_list _ _ t hu⟩ | (intros;contradiction)
 | tup i =>
  obtain⟨q,ys,rfl,g1,g2⟩:=sY ha;cases ru;obtain⟨bF,_,t',_⟩:=I.tuple g1;cases b with
  | exc _ _=>simp[dep] at db
  | non=>have e:=uE hb;subst e;cases rv;rw[deq]<;>first | exact⟨.tuple_none t' hu,.tuple_none t' hu,.tuple_none t' hu⟩ | (intros;contradiction)
  | bl j=>have e:=tY hb;subst e;cases rv;rw[deq]<;>first | exact⟨.tuple_bool _ t' hu,.tuple_bool _ t' hu,.tuple_bool _ t' hu⟩ | (intros;contradiction)
  | int j=>have e:=sQ hb;subst e;obtain⟨t,rfl⟩:=rv;rw[deq]<;>first | exact⟨.tuple_int _ _ t' hu,.tuple_int _ _ t' hu,.tuple_int _ _ t' hu⟩ | (intros;contradiction)
  | str j=>have e:=uG hb;subst e;obtain⟨t,rfl⟩:=rv;rw[deq]<;>first | exact⟨.tuple_str _ _ t' hu,.tuple_str _ _ t' hu,.tuple_str _ _ t' hu⟩ | (intros;contradiction)
  | tup j=>exact ht _ _ rfl rfl
  | lst j =>
   obtain⟨p,xs,rfl,h1,h2⟩:=sU hb;cases rv;obtain⟨ac,_,t,_⟩:=I.list (rdL h1);have t:=t.isList;rw[deq]<;>first | exact⟨.tuple_list t' t hu,.tuple_list t' t hu,.tuple_list t' t hu⟩ | (intros;contradiction)
 | lst i =>
  obtain⟨q,ys,rfl,g1,g2⟩:=sU ha;cases ru;obtain⟨bF,_,t',_⟩:=I.list (rdL g1);have t':=t'.isList;cases b with
  | exc _ _=>simp[dep] at db
  | non=>have e:=uE hb;subst e;cases rv;rw[deq]<;>first | exact⟨.list_none t' hu,.list_none t' hu,.list_none t' hu⟩ | (intros;contradiction)
  | bl j=>have e:=tY hb;subst e;cases rv;rw[deq]<;>first | exact⟨.list_bool _ t' hu,.list_bool _ t' hu,.list_bool _ t' hu⟩ | (intros;contradiction)
  | int j=>have e:=sQ hb;subst e;obtain⟨t,rfl⟩:=rv;rw[deq]<;>first | exact⟨.list_int _ _ t' hu,.list_int _ _ t' hu,.list_int _ _ t' hu⟩ | (intros;contradiction)
  | str j=>have e:=uG hb;subst e;obtain⟨t,rfl⟩:=rv;rw[deq]<;>first | exact⟨.list_str _ _ t' hu,.list_str _ _ t' hu,.list_str _ _ t' hu⟩ | (intros;contradiction)
  | lst j=>exact hl _ _ rfl rfl
  | tup j =>
   obtain⟨p,xs,rfl,h1,h2⟩:=sY hb;cases rv;obtain⟨ac,_,t,_⟩:=I.tuple h1;rw[deq]<;>first | exact⟨.list_tuple t' t hu,.list_tuple t' t hu,.list_tuple t' t hu⟩ | (intros;contradiction)
open PySem.SeqAt in
theorem wv(I:Inv X aa Z H s):∀(n:Nat) (A:SH),A.units+n < S8->n < 900->∀(a b:D) (x y:V) (u v:b_),dep a<=n/\dep b<=n->Is X.K H a x->Is X.K H b y->RelV x u->RelV y v->RcAt A s u v (deq a b)/\XA A s u v (deq a b)/\Xp A s u v (!deq a b):=by
 intro n
 induction n with
 | zero =>
  intro A hu hn a b x y u v hd ha hb ru rv;refine Fx I (by omega) (by omega) (by omega) ha hb ru rv (λxs ys e1 e2=>?_) (λxs ys e1 e2=>?_)<;>(subst e1;subst e2;rw[dep,dep] at hd;omega)
 | succ n ih =>
  intro A hu hn a b x y u v hd ha hb ru rv;have fh:A.in1.units+n < S8:=by show A.units+1+n < S8;omega
  refine Fx I (by omega) (by omega) (by omega) ha hb ru rv (λds es e1 e2=>?_) (λds es e1 e2=>?_)
  ·subst e1;subst e2;obtain⟨p,xs,rfl,h1,h2⟩:=sY ha;obtain⟨q,ys,rfl,h3,h4⟩:=sY hb;cases ru;cases rv;obtain⟨ac,r1,t1,_⟩:=I.tuple h1;obtain⟨bF,r2,t2,_⟩:=I.tuple h3;have l1:ac.toArray.size=ds.length:=by rw[p_,←r1.length,h2.length]
   have l2:bF.toArray.size=es.length:=by rw[p_,←r2.length,h4.length]
   have hk:∀j (g1:j < ac.toArray.size) (g2:j < bF.toArray.size),XA A.in1 s ac.toArray[j] bF.toArray[j] (deq (ds.getD j .non) (es.getD j .non)):=λj g1 g2=>by
    obtain⟨v1,q1,q2⟩:=h2.getU r1 g1;obtain⟨v2,q3,q4⟩:=h4.getU r2 g2;refine(ih A.in1 fh (by omega) _ _ _ _ _ _ ?_ q2 q4 q1 q3).2.1
    have m1:ds.getD j .non∈ds:=by
     rw[h_,g_ (by omega)];exact Sf _
    have m2:es.getD j .non∈es:=by
     rw[h_,g_ (by omega)];exact Sf _
    have k1:=t7 m1;have k2:=t7 m2;rw[dep,dep] at hd;omega
   have re:((Sx (min ac.toArray.size bF.toArray.size)).all (λj=>deq (ds.getD j .non) (es.getD j .non))&&ac.toArray.size == bF.toArray.size)=deqA ds es:=by
    rw[l1,l2];exact xX ds es
   have R1:=RcAt.tuples (A:=A) t1 t2 (by omega) hk;have R3:=Xp.tuples (A:=A) t1 t2 (by omega) hk;rw[re] at R1 R3;have ed:deq (.tup ds) (.tup es)=deqA ds es:=by rw[deq]
   rw[ed];refine⟨R1,?_,R3⟩;by_cases hpq:p=q
   ·subst hpq;have:=wQ I (by omega) (by omega) ha hb;cases this;rw[wS];exact .same _
   ·exact .of_refs hpq R1
  ·subst e1;subst e2;obtain⟨p,xs,rfl,h1,h2⟩:=sU ha;obtain⟨q,ys,rfl,h3,h4⟩:=sU hb;cases ru;cases rv;obtain⟨ac,r1,t1,_⟩:=I.list (rdL h1);obtain⟨bF,r2,t2,_⟩:=I.list (rdL h3);have t1:=t1.isList;have t2:=t2.isList;have l1:ac.toArray.size=ds.length:=by rw[p_,←r1.length,h2.length]
   have l2:bF.toArray.size=es.length:=by rw[p_,←r2.length,h4.length]
   have ed:deq (.lst ds) (.lst es)=deqA ds es:=by rw[deq]
   rw[ed]
   have fin:RcAt A s (.ref p) (.ref q) (deqA ds es)/\Xp A s (.ref p) (.ref q) (!deqA ds es):=by
    by_cases hl:ds.length=es.length
    ·have hk:∀j (g1:j < ac.toArray.size) (g2:j < bF.toArray.size),XA A.in1 s ac.toArray[j] bF.toArray[j] (deq (ds.getD j .non) (es.getD j .non)):=λj g1 g2=>by
      obtain⟨v1,q1,q2⟩:=h2.getU r1 g1;obtain⟨v2,q3,q4⟩:=h4.getU r2 g2;refine(ih A.in1 fh (by omega) _ _ _ _ _ _ ?_ q2 q4 q1 q3).2.1
      have m1:ds.getD j .non∈ds:=by
       rw[h_,g_ (by omega)];exact Sf _
      have m2:es.getD j .non∈es:=by
       rw[h_,g_ (by omega)];exact Sf _
      have k1:=t7 m1;have k2:=t7 m2;rw[dep,dep] at hd;omega
     have re:(Sx ac.toArray.size).all (λj=>deq (ds.getD j .non) (es.getD j .non))=deqA ds es:=by
      rw[←xX ds es,l1,hl,Nat.min_self,beq_self_eq_true,Bool.and_true]
     have R1:=RcAt.lists (A:=A) t1 t2 (by omega) (by omega) hk;have R3:=Xp.lists (A:=A) t1 t2 (by omega) (by omega) hk;rw[re] at R1 R3;exact⟨R1,R3⟩
    ·rw[K9 hl];have gW:(ac.toArray.size != bF.toArray.size)=true:=by rw[l1,l2];simpa using hl
     exact⟨.lists_lengths t1 t2 gW (by omega),.lists_lengths t1 t2 gW (by omega)⟩
   refine⟨fin.1,?_,fin.2⟩;by_cases hpq:p=q
   ·subst hpq;have:=wQ I (by omega) (by omega) ha hb;cases this;rw[wS];exact .same _
   ·exact .of_refs hpq fin.1
noncomputable def rEqD(K:PySem.W.Frag)(neg:Bool):R2:=λx y H Q=>∃a b,Is K H a x/\Is K H b y/\(dep a<=100/\dep b<=100)/\Q (.bl (if neg then !deq a b else deq a b)) H
theorem Ky(hu:X.A.units+100 < S8):OpR X (Se .Eq) (rEqD X.K false):=by
 intro aa s Z H x y v u Q I rx ry h;obtain⟨a,b,h1,h2,h3,q⟩:=h;exact(wv I 100 X.A hu (by decide) a b x y v u h3 h1 h2 rx ry).1 _ _ _ _ ⟨.bl (deq a b),H,I,rfl,q⟩
theorem GF(hu:X.A.units+100 < S8):OpR X (Se .NotEq) (rEqD X.K true):=by
 intro aa s Z H x y v u Q I rx ry h;obtain⟨a,b,h1,h2,h3,q⟩:=h;exact(wv I 100 X.A hu (by decide) a b x y v u h3 h1 h2 rx ry).2.2 _ _ _ _ ⟨.bl (!deq a b),H,I,rfl,q⟩
noncomputable def rInD(K:PySem.W.Frag)(neg:Bool):R2:=λx y H Q=>∃a ds,Is K H a x/\(Is K H (.lst ds) y\/Is K H (.tup ds) y)/\(dep a<=99/\depA ds<=99)/\Q (.bl (if neg then !ds.any (λd=>deq d a) else ds.any λd=>deq d a)) H
theorem Nr{K:PySem.W.Frag}{f:D->Bool}{e:b_->Bool}(h:IsA K H ds xs)(r:Vals xs us)(hf:∀d v u,d∈ds->Is K H d v->RelV v u->e u=f d):us.any e=ds.any f:=by
 induction ds generalizing xs us with
 | nil=>have:=h.nil_inv;subst this;cases r;rfl
 | cons d ds ih =>
  obtain⟨x,xr,rfl,h1,h2⟩:=h.cons_inv;cases r with
  | cons r1 r2 =>
   rw[XW,XW,hf d _ _ m_ h1 r1,ih h2 r2 λd v u hd=>hf d v u (j_ _ hd)]
theorem Gh(hu:X.A.units+100 < S8){aa:List (i_×Obj)}{Z:L2.St}{H:Hp}{s:c_}{x y:V}{v:b_}{Q:VK}(I:Inv X aa Z H s)(rx:RelV x v)(ry:RelV y u)(h:rInD X.K neg x y H Q):
  ∃(ac:Array b_) (e:b_->Bool) (l:i_),u=.ref l/\(s.heap.IsList l ac\/s.heap.IsTuple l ac)/\(∀z,z∈ac->PySem.SeqAt.EqAt X.A.in1 s z v (e z))/\Q (.bl (if neg then !ac.any e else ac.any e)) H:=by
 obtain⟨a,ds,h1,h2,h3,q⟩:=h;have fh:X.A.in1.units+99 < S8:=by show X.A.units+1+99 < S8;omega
 -- every item has ac data: e reads it kO
 have bq:∀(xs:List V) (ac:List b_),IsA X.K H ds xs->Vals xs ac->∃e:b_->Bool,(∀z,z∈ac.toArray->PySem.SeqAt.EqAt X.A.in1 s z v (e z))/\ac.toArray.any e=ds.any λd=>deq d a:=by
  intro xs ac ha r
  have ex:∀z:b_,∃b:Bool,∀d w,d∈ds->Is X.K H d w->RelV w z->b=deq d a:=λz=>by
   by_cases hz:∃d w,d∈ds/\Is X.K H d w/\RelV w z
   ·obtain⟨d,w,hd,hi,hr⟩:=hz;refine⟨deq d a,λd' w' cx bw pz=>?_⟩;have:=RelV.inj hr pz;subst this;rw[wQ I (by have:=t7 hd;omega) (by have:=t7 cx;omega) hi bw]
   ·exact⟨false,λd w hd hi hr=>absurd ⟨d,w,hd,hi,hr⟩ hz⟩
  refine⟨λz=>(ex z).choose,λz hz=>?_,?_⟩
  ·have kP:z∈ac:=by simpa using hz
   obtain⟨j,hj,ej⟩:=Wn.mp kP;obtain⟨w,q1,q2⟩:=ha.getU r (j:=j) (by simpa using hj)
   have mS:RelV w z:=by
    have:ac.toArray[j]'(by simpa using hj)=z:=by simpa using ej
    rw[←this];exact q1
   have hm:ds.getD j .non∈ds:=by
    have l1:=ha.length;have l2:=r.length;rw[h_,g_ (by omega)];exact Sf _
   show PySem.SeqAt.EqAt X.A.in1 s z v (ex z).choose;rw[(ex z).choose_spec _ w hm q2 mS];exact(wv I 99 X.A.in1 fh (by decide) _ a w x z v ⟨by have:=t7 hm;omega,h3.1⟩ q2 h1 mS rx).2.1
  ·have:ac.toArray.any (λz=>(ex z).choose)=ac.any (λz=>(ex z).choose):=by simp
   rw[this];exact Nr ha r λd w z hd hi hr=>(ex z).choose_spec d w hd hi hr
 rcases h2 with h2 | h2
 ·obtain⟨l,xs,rfl,g1,g2⟩:=sU h2;cases ry;obtain⟨ac,r,t,_⟩:=I.list (rdL g1);obtain⟨e,k1,k2⟩:=bq xs ac g2 r;exact⟨ac.toArray,e,l,rfl,.inl t.isList,k1,by rw[k2];exact q⟩
 ·obtain⟨l,xs,rfl,g1,g2⟩:=sY h2;cases ry;obtain⟨ac,r,t,_⟩:=I.tuple g1;obtain⟨e,k1,k2⟩:=bq xs ac g2 r;exact⟨ac.toArray,e,l,rfl,.inr t,k1,by rw[k2];exact q⟩
theorem Db(hu:X.A.units+100 < S8):OpR X (Se .In) (rInD X.K false):=by
 intro aa s Z H x y v u Q I rx ry h;obtain⟨ac,e,l,rfl,hl,he,q⟩:=Gh hu I rx ry h
 rcases hl with hl | hl
 ·exact PySem.SeqAt.in_listAt e hl he ⟨.bl (ac.any e),H,I,rfl,q⟩
 ·exact PySem.SeqAt.in_tupleAt e hl he ⟨.bl (ac.any e),H,I,rfl,q⟩
theorem JX(hu:X.A.units+100 < S8):OpR X (Se .NotIn) (rInD X.K true):=by
 intro aa s Z H x y v u Q I rx ry h;obtain⟨ac,e,l,rfl,hl,he,q⟩:=Gh hu I rx ry h
 rcases hl with hl | hl
 ·exact PySem.SeqAt.notIn_listAt e hl he ⟨.bl (!ac.any e),H,I,rfl,q⟩
 ·exact PySem.SeqAt.notIn_tupleAt e hl he ⟨.bl (!ac.any e),H,I,rfl,q⟩
end
end DL
set_option exponentiation.threshold 2000
namespace DL
open PySem PySem.Spec PyProof.Rows L2
noncomputable def intF(C:Int->Int->Bool)(g:Int->Int->D)(a b:D):Option D:=match a,b with
 | .int i,.int j=>if C i j then some (g i j) else none
 | _,_=>none
theorem Bq{C:Int->Int->Bool}{g:Int->Int->D}{a b:D}(h:intF C g a b=some d):∃i j,a=.int i/\b=.int j/\C i j=true/\d=g i j:=by
 unfold intF at h;split at h
 ·obtain⟨h1,h2⟩:=tG h;exact⟨_,_,rfl,rfl,h1,h2⟩
 ·cases h
noncomputable def tt2(_ _:Int):Bool:=true
theorem od_I{K:PySem.W.Frag}{C:Int->Int->Prop}{c:Int->Int->Bool}{g:Int->Int->Int}(hc:∀i j,c i j=true->C i j):OpD K (rI C λi j=>.int (g i j)) (intF c λi j=>.int (g i j)):=λa b d e B G I H Z Γ x y Q r hx hy k=>by
 obtain⟨i,j,rfl,rfl,h,rfl⟩:=Bq e;exact⟨i,j,sQ hx,sQ hy,hc i j h,k.now r (Is.int _)⟩
theorem KJ{K:PySem.W.Frag}{g:Int->Int->Int}:OpD K (rI0 λi j=>.int (g i j)) (intF tt2 λi j=>.int (g i j)):=λa b d e B G I H Z Γ x y Q r hx hy k=>by
 obtain⟨i,j,rfl,rfl,h,rfl⟩:=Bq e;exact⟨i,j,sQ hx,sQ hy,k.now r (Is.int _)⟩
theorem vv{K:PySem.W.Frag}{g:Int->Int->Bool}:OpD K (rI0 λi j=>.bl (g i j)) (intF tt2 λi j=>.bl (g i j)):=λa b d e B G I H Z Γ x y Q r hx hy k=>by
 obtain⟨i,j,rfl,rfl,h,rfl⟩:=Bq e;exact⟨i,j,sQ hx,sQ hy,k.now r (Is.bl _)⟩
noncomputable def subI:D->D->Option D:=intF tt2 λi j=>.int (i - j)
noncomputable def mulI:D->D->Option D:=intF (λi j=>decide ((-(2 ^ 64) < i/\i < 2 ^ 64)\/(-(2 ^ 64) < j/\j < 2 ^ 64))) λi j=>.int (i*j)
noncomputable def modI:D->D->Option D:=intF (λ_ j=>decide (0 < j)) λi j=>.int (i % j)
noncomputable def divI:D->D->Option D:=intF (λ_ j=>decide (0 < j/\j < 2 ^ 200)) λi j=>.int (i / j)
noncomputable def powI:D->D->Option D:=intF (λi j=>decide (0<=j/\j<=1000000/\i.natAbs < 2 ^ 64)) λi j=>.int (i ^ j.toNat)
noncomputable def ltI:D->D->Option D:=intF tt2 λi j=>.bl (decide (i < j))
noncomputable def leI:D->D->Option D:=intF tt2 λi j=>.bl (decide (i<=j))
noncomputable def gtI:D->D->Option D:=intF tt2 λi j=>.bl (decide (j < i))
noncomputable def geI:D->D->Option D:=intF tt2 λi j=>.bl (decide (j<=i))
section
variable{B:BB}{a b c:RW}{es:List RW}{gb gc:M D}
theorem BK(ha:ED X B a ga)(hb:ED X B b gb):ED X B (.BinOp a .Sub b pos) (op2 subI ga gb):=vT Kl KJ ha hb
theorem uv(ha:ED X B a ga)(hb:ED X B b gb):ED X B (.BinOp a .Mult b pos) (op2 mulI ga gb):=vT Jo (od_I (C:=CMul) λi j h=>(of_decide_eq_true h:_\/_)) ha hb
theorem ut(ha:ED X B a ga)(hb:ED X B b gb):ED X B (.BinOp a .Mod b pos) (op2 modI ga gb):=vT PB (od_I λi j h=>of_decide_eq_true h) ha hb
theorem wZ(ha:ED X B a ga)(hb:ED X B b gb):ED X B (.BinOp a .Pow b pos) (op2 powI ga gb):=vT Lx (od_I (C:=CPow) λi j h=>(of_decide_eq_true h:_/\_/\_)) ha hb
def CDivW(i j:Int):Prop:=0 < j/\j < 2 ^ 200
theorem OO:OpR X (S3 .FloorDiv) (rI CDivW λi j=>.int (i / j)):=opI λi j _ _ _ _ _ hc q=>by
 have h1:(0:Int) < j:=hc.1
 have h2:j.natAbs < 2 ^ 200:=by
  have:=hc.2;omega
 have h4:j.natAbs.log2 < 9000:=by
  have h5:j.natAbs.log2 < 200:=(Nat.log2_lt (by omega)).mpr h2;omega
 refine floordiv_int (by omega) ?_ (.inl (PyProof.noPylong_of_log2 h4));rw[Int.fdiv_eq_ediv_of_nonneg _ (Xa h1)];exact q
theorem PL(ha:ED X B a ga)(hb:ED X B b gb):ED X B (.BinOp a .FloorDiv b pos) (op2 divI ga gb):=vT OO (od_I (C:=CDivW) λi j h=>(of_decide_eq_true h:_/\_)) ha hb
theorem DI(ha:ED X B a ga)(hb:ED X B b gb):ED X B (.Compare a [.LtE] [b] pos) (op2 leI ga gb):=A7 yf vv ha hb (nomark _)
theorem vC(ha:ED X B a ga)(hb:ED X B b gb):TD X B (.Compare a [.Lt] [b] pos) (tst (op2 ltI ga gb)):=uZ EI vv ha hb (nomark _)
theorem yd(ha:ED X B a ga)(hb:ED X B b gb):TD X B (.Compare a [.Gt] [b] pos) (tst (op2 gtI ga gb)):=uZ M5 vv ha hb (nomark _)
theorem Cc(ha:ED X B a ga)(hb:ED X B b gb):TD X B (.Compare a [.GtE] [b] pos) (tst (op2 geI ga gb)):=uZ IT vv ha hb (nomark _)
theorem M4(ha:ED X B a ga)(hb:ED X B b gb)(hc:ED X B c gc)(hm:VM [.LtE,.LtE] [b,c]=false:=by with_unfolding_all rfl):ED X B (.Compare a [.LtE,.LtE] [b,c] pos) (chn leI leI ga gb gc):=HJ yf vv yf vv ha hb hc hm
theorem wM(ha:ED X B a ga)(hb:ED X B b gb)(hc:ED X B c gc)(hm:VM [.LtE,.Lt] [b,c]=false:=by with_unfolding_all rfl):TD X B (.Compare a [.LtE,.Lt] [b,c] pos) (tst (chn leI ltI ga gb gc)):=HP yf vv EI vv ha hb hc hm
noncomputable def eqF(neg:Bool)(a b:D):Option D:=if dep a<=100/\dep b<=100 then some (.bl (if neg then !deq a b else deq a b)) else none
theorem AQ{K:PySem.W.Frag}:OpD K (rEqD K neg) (eqF neg):=λa b d e B G I H Z Γ x y Q r hx hy k=>by
 obtain⟨h1,rfl⟩:=tG e;exact⟨a,b,hx.mono r.iH,hy.mono r.iH,h1,k.now r (Is.bl _)⟩
variable {kr:Nat}
theorem hu100(hr:Room k A):A.units+100 < S8:=by have:=hr.un;omega
theorem N0(hr:Room kr X.A)(ha:ED X B a ga)(hb:ED X B b gb):ED X B (.Compare a [.NotEq] [b] pos) (op2 (eqF true) ga gb):=A7 (GF (hu100 hr)) AQ ha hb (nomark _)
theorem tH(hr:Room kr X.A)(ha:ED X B a ga)(hb:ED X B b gb):TD X B (.Compare a [.Eq] [b] pos) (tst (op2 (eqF false) ga gb)):=uZ (Ky (hu100 hr)) AQ ha hb (nomark _)
theorem uf(hr:Room kr X.A)(ha:ED X B a ga)(hb:ED X B b gb):TD X B (.Compare a [.NotEq] [b] pos) (tst (op2 (eqF true) ga gb)):=uZ (GF (hu100 hr)) AQ ha hb (nomark _)
noncomputable def inF(neg:Bool)(a b:D):Option D:=match seqI b with
 | some ds=>if dep a<=99/\depA ds<=99 then some (.bl (if neg then !ds.any (λd=>deq d a) else ds.any λd=>deq d a)) else none
 | none=>none
theorem BM{K:PySem.W.Frag}:OpD K (rInD K neg) (inF neg):=λa b d e B G I H Z Γ x y Q r hx hy k=>by
 unfold inF at e;cases b with
 | lst ds =>
  obtain⟨h1,rfl⟩:=tG e;exact⟨a,ds,hx.mono r.iH,.inl (hy.mono r.iH),h1,k.now r (Is.bl _)⟩
 | tup ds =>
  obtain⟨h1,rfl⟩:=tG e;exact⟨a,ds,hx.mono r.iH,.inr (hy.mono r.iH),h1,k.now r (Is.bl _)⟩
 | _=>cases e
theorem Hb(hr:Room kr X.A)(ha:ED X B a ga)(hb:ED X B b gb)(hm:SS .In b=false:=by rfl):ED X B (.Compare a [.In] [b] pos) (op2 (inF false) ga gb):=A7 (Db (hu100 hr)) BM ha hb hm
theorem Av(hr:Room kr X.A)(ha:ED X B a ga)(hb:ED X B b gb)(hm:SS .In b=false:=by rfl):TD X B (.Compare a [.In] [b] pos) (tst (op2 (inF false) ga gb)):=uZ (Db (hu100 hr)) BM ha hb hm
theorem we(hr:Room kr X.A)(ha:ED X B a ga)(hb:ED X B b gb)(hm:SS .NotIn b=false:=by rfl):TD X B (.Compare a [.NotIn] [b] pos) (tst (op2 (inF true) ga gb)):=uZ (JX (hu100 hr)) BM ha hb hm
noncomputable def rCatTT(K:PySem.W.Frag):R2:=λx y H Q=>∃a b xs ys,x=.ref a/\y=.ref b/\SqT K H a xs/\SqT K H b ys/\xs.length+ys.length<=A_ ∧
 (xs=[]->Q (.ref b) H)/\(xs≠[]->ys=[]->Q (.ref a) H)/\(xs≠[]->ys≠[]->∀p,H p=none->Q (.ref p) (upd H p (.tup (xs++ys))))
theorem IR:OpR X (S3 .Add) (rCatTT X.K):=by
 intro aa s Z H x y v u Q I rx ry h;obtain⟨a,b,xs,ys,rfl,rfl,ha,hb,hz,q0,q1,q2⟩:=h;cases rx;cases ry;obtain⟨ac,r1,p1,_⟩:=I.tuple ha;obtain⟨ck,r2,p2,_⟩:=I.tuple hb;by_cases hx:xs=[]
 ·subst hx;cases r1;obtain⟨⟨cls,dd,data,sl⟩,ho,hc,n,hd⟩:=id p1;obtain⟨⟨mB,iV,data2,iW⟩,eY,dY,n2,dA⟩:=id p2;simp only at hc hd dY dA;subst hc hd dY dA
  exact W6 ⟨_,ho,rfl⟩ ⟨_,eY,rfl⟩ VN WN Wg V8 (VO _ _)
   (tuple_addW0 a b _ ck.toArray n n2 dd iV sl iW (by simp)) ⟨ho,eY,⟨.ref b,H,I,rfl,q0 rfl⟩⟩
 ·exact Na aa s Z H (.ref a) (.ref b) _ _ Q I rfl rfl ⟨a,b,xs,ys,rfl,rfl,ha,hb,hx,hz,q1 hx,q2 hx⟩
noncomputable def addF(a b:D):Option D:=match a,b with
 | .int i,.int j=>some (.int (i+j))
 | .tup xs,.tup ys=>if xs.length+ys.length<=lim then some (.tup (xs++ys)) else none
 | .str x,.str y=>if x.length+y.length<=lim then some (.str (x++y)) else none
 | _,_=>none
theorem IsA.ne_nil{K:PySem.W.Frag}(h:IsA K I ds xs):xs=[]↔ds=[]:=by
 have:=h.length;constructor
 ·intro e;subst e;exact Sw.mp this
 ·intro e;subst e;exact Sw.mp this.symm
theorem tu(ha:ED X B a ga)(hb:ED X B b gb):ED X B (.BinOp a .Add b pos) (op2 addF ga gb):=vT ((Ox.or IR).or NX) (λa b d e B G I H Z Γ x y Q r hx hy k=>by
 unfold addF at e;split at e
 ·cases e;exact .inl (.inl ⟨_,_,sQ hx,sQ hy,k.now r (Is.int _)⟩)
 ·obtain⟨hl,rfl⟩:=tG e;obtain⟨p,xs,rfl,h1,h2⟩:=sY hx;obtain⟨q,ys,rfl,h3,h4⟩:=sY hy;refine .inl (.inr ⟨p,q,xs,ys,rfl,rfl,Same.sqT r.iH h1,Same.sqT r.iH h3,by rw[←h2.length,←h4.length];exact vH hl,λz=>?_,λ_ z=>?_,λ_ _ p' hp=>k.tup r hp (IsA.append h2 h4)⟩)
  ·have:=h2.ne_nil.mp z;subst this;exact k.now r (Is.tup h3 h4)
  ·have:=h4.ne_nil.mp z;subst this;rw[SO] at k;exact k.now r (Is.tup h1 h2)
 ·obtain⟨hl,rfl⟩:=tG e;exact .inr ⟨_,_,uG hx,uG hy,vH hl,k.now r (Is.str _)⟩
 ·cases e) ha hb
noncomputable def rCatR(K:PySem.W.Frag):R2:=λx y H Q=>∃l b xs zs,x=.ref l/\y=.ref b/\RdK K H l xs/\RdK K H b zs/\xs.length+zs.length<=A_/\∀p,H p=none->Q (.ref p) (upd H p (.lst (xs++zs)))
theorem JG:OpR X (S3 .Add) (rCatR X.K):=by
 intro aa s Z H x y v u Q I rx ry h;obtain⟨l,b,xs,zs,rfl,rfl,hH,hB,hz,q⟩:=h;cases rx;cases ry;obtain⟨z,ac,n,r,hl,e⟩:=zA I hH;obtain⟨z2,ck,n2,r2,eH,e2⟩:=zA I hB;refine PySem.P.add_list e e2 ?_ (by rw[p_,p_];omega);have ea:ac.toArray++ck.toArray=(ac++ck).toArray:=by simp
 rw[ea];exact⟨.ref _,_,I.lnew (t':=s.toks) (r.append r2) (by rw[v_];omega),rfl,q _ I.fresh⟩
noncomputable def catF(a b:D):Option (List D):=match a,b with
 | .lst xs,.lst ys=>if xs.length+ys.length<=lim then some (xs++ys) else none
 | _,_=>none
theorem ub(ha:ED X B a ga)(hb:ED X B b gb):EO X B (.BinOp a .Add b pos) (op2 catF ga gb):=CB JG (λa b d e B G I H Z Γ x y Q r hx hy k=>by
 unfold catF at e;split at e
 ·obtain⟨hl,rfl⟩:=tG e;obtain⟨p,xs,rfl,h1,h2⟩:=sU hx;obtain⟨q,ys,rfl,h3,h4⟩:=sU hy;exact⟨p,q,xs,ys,rfl,rfl,Same.rdK r.iH h1,Same.rdK r.iH h3,by rw[←h2.length,←h4.length];exact vH hl,λp' hp=>k.new r hp (IsA.append h2 h4)⟩
 ·cases e) ha hb
theorem IsA.at{K:PySem.W.Frag}{I:Hp}{ds:List D}{xs:List V}{i:Int}{d:D}(h:IsA K I ds xs)(e:atI ds i=some d):∃x,atI xs i=some x/\Is K I d x:=by
 unfold atI at e ⊢;rw[←h.length];cases hj:ixN ds.length i with
 | none=>rw[hj] at e;cases e
 | some j =>
  rw[hj] at e;exact h.get e
noncomputable def ixF(a b:D):Option D:=match seqI a,asI b with
 | some ds,some i=>atI ds i
 | _,_=>none
theorem FG{a b:D}(h:ixF a b=some d):∃ds i,(a=.lst ds\/a=.tup ds)/\b=.int i/\atI ds i=some d:=by
 unfold ixF at h;cases a<;>cases b<;>simp[seqI,asI] at h
 ·exact⟨_,_,.inr rfl,rfl,h⟩
 ·exact⟨_,_,.inl rfl,rfl,h⟩
theorem sL(ha:ED X B a ga)(hb:ED X B b gb)(hs:PlainIx b:=by exact λ_ _=>rfl):ED X B (.Subscript a b pos) (op2 ixF ga gb):=Pq (Gw.or MX) (λa b d e B G I H Z Γ x y Q r hx hy k=>by
 obtain⟨ds,i,h1,rfl,h2⟩:=FG e
 rcases h1 with rfl | rfl
 ·obtain⟨p,xs,rfl,h3,h4⟩:=sU hx;obtain⟨v,e5,e6⟩:=h4.at h2;exact .inl ⟨p,xs,i,v,rfl,sQ hy,(Same.rdK r.iH h3).sq,e5,k.now r e6⟩
 ·obtain⟨p,xs,rfl,h3,h4⟩:=sY hx;obtain⟨v,e5,e6⟩:=h4.at h2
  exact .inr ⟨p,xs,i,v,rfl,sQ hy,Same.sqT r.iH h3,e5,k.now r e6⟩) ha hb hs
noncomputable def look(i:Nat):M D:=λΓ=>match Γ[i]? with
 | some (some (.own ds))=>some (.lst ds,Γ)
 | some (some (.bor ds))=>some (.lst ds,Γ)
 | _=>none
theorem z7{K:PySem.W.Frag}{H:Hp}(h:look i Γ=some (d,ae))(r:Rep K B G I H Z Γ):ae=Γ/\∃p xs ds,d=.lst ds/\Z[i]?=some (some (.ref p))/\H p=some (.lst xs)/\IsA K I ds xs:=by
 unfold look at h;cases e:Γ[i]? with
 | none=>rw[e] at h;cases h
 | some o =>
  cases o with
  | none=>rw[e] at h;cases h
  | some q =>
   rw[e] at h;obtain⟨v,h1,h2⟩:=r.slot i q e;cases q with
   | val _=>cases h
   | own ds=>cases h;obtain⟨p,xs,rfl,g1,_,_,g4⟩:=h2;exact⟨rfl,p,xs,ds,rfl,h1,g1,g4⟩
   | fro ds=>cases h
   | dic ds=>cases h
   | bor ds=>cases h;obtain⟨p,xs,rfl,g1,_,_,g4⟩:=h2;exact⟨rfl,p,xs,ds,rfl,h1,g1,g4⟩
noncomputable def atN(i:Nat)(g:M D):M D:=mutS i (bnd g λn=>bnd (look i) λl=>lft (ixF l n))
theorem uS{x:Str}(hv:PE X (.Name x p1) (tVar i))(hb:ED X B b gb)(hs:PlainIx b:=by exact λ_ _=>rfl):ED X B (.Subscript (.Name x p1) b pos) (atN i gb):=PE.imp (DG Gw hv hb hs) λZ H Q q=>by
 obtain⟨G,I,Γ,d,ae,r,e1,k⟩:=q;obtain⟨hm,e1⟩:=wA e1;obtain⟨n,Γ1,e2,e3⟩:=rK e1;obtain⟨l,Γ2,e4,e5⟩:=rK e3;obtain⟨e6,rfl⟩:=sW e5;obtain⟨p,xs,h1,h2⟩:=vU hm r;refine⟨_,h1,G,I,Γ,n,Γ1,r,e2,λv H1 I1 r1 g1 hn=>?_⟩;obtain⟨rfl,p',bV,ds,rfl,f1,f2,f3⟩:=z7 e4 r1;have hp:p'=p:=by rw[h1] at f1;cases f1;rfl
 subst hp;obtain⟨eJ,j,g2,rfl,g3⟩:=FG e6
 rcases g2 with g2 | g2
 ·cases g2;obtain⟨y,e7,e8⟩:=f3.at g3;exact⟨p',bV,j,y,rfl,sQ hn,SqL.of f2,e7,(k.after g1).now r1 e8⟩
 ·cases g2
noncomputable def lenF(ds:List D):Option D:=match ds with
 | [.lst xs]=>some (.int xs.length)
 | [.tup xs]=>some (.int xs.length)
 | _=>none
theorem OC(h:lenF ds=some d):∃xs,(ds=[.lst xs]\/ds=[.tup xs])/\d=.int xs.length:=by
 unfold lenF at h;split at h
 ·cases h;exact⟨_,.inl rfl,rfl⟩
 ·cases h;exact⟨_,.inr rfl,rfl⟩
 ·cases h
theorem tT{p:Pos}(hg:Gl X "len")(hm:X.mg "len"=none)(ha:AD X B [e] t)(he:e_ [e] X.env=(false,eval e X.env)::e_ [] X.env:=by rfl)(aC:(R4 pos (e_ [] X.env)).any (·.1)=false:=by rfl):
  ED X B (.Call (.Name "len" p) [e] [] pos) (fn1 lenF t):=wo FL (λds d e B G I H Z Γ xs Q r h k=>by
 obtain⟨ys,h1,rfl⟩:=OC e
 rcases h1 with rfl | rfl
 ·obtain⟨x,rfl,hx⟩:=h.one;obtain⟨q,zs,rfl,h3,h4⟩:=sU hx;exact⟨q,zs,rfl,.inl ((Same.rdK r.iH h3).sq),by rw[h4.length] at k;exact k.now r (Is.int _)⟩
 ·obtain⟨x,rfl,hx⟩:=h.one;obtain⟨q,zs,rfl,h3,h4⟩:=sY hx
  exact⟨q,zs,rfl,.inr (Same.sqT r.iH h3),by rw[h4.length] at k;exact k.now r (Is.int _)⟩) hg hm boot_len ha (by decide) (by decide) he aC
noncomputable def lenN(i:Nat):M D:=bnd (look i) λl=>lft (lenF [l])
theorem Ii{x:Str}{p:Pos}(hg:Gl X "len")(hm:X.mg "len"=none)(hv:PE X (.Name x p1) (tVar i))(he:e_ [.Name x p1] X.env=(false,eval (.Name x p1) X.env)::e_ [] X.env:=by rfl)(aC:(R4 pos (e_ [] X.env)).any (·.1)=false:=by rfl):
  ED X B (.Call (.Name "len" p) [.Name x p1] [] pos) (lenN i):=PE.imp (w6 FL hg hm boot_len (uY hv wa he) (by decide) (by decide) he aC) λZ H Q q=>by
 obtain⟨G,I,Γ,d,ae,r,e1,k⟩:=q;obtain⟨l,Γ1,e2,e3⟩:=rK e1;obtain⟨e4,rfl⟩:=sW e3;obtain⟨rfl,q,xs,ds,rfl,f1,f2,f3⟩:=z7 e2 r;cases e4;exact⟨_,f1,q,xs,rfl,.inl (SqL.of f2),by rw[f3.length] at k;exact k.now r (Is.int _)⟩
def partD(e:Option RW)(X:Cx)(B:BB)(g:M (Option Int)):Prop:=PO X e (λZ H Q=>∃G I Γ o ae,Rep X.K B G I H Z Γ/\g Γ=some (o,ae)/\∀H' I',Rep X.K B G I' H' Z ae->Grow G I I'->Q o H')
theorem vS:partD none X B (ret none):=λaa s Z H Q I h=>Jr aa s Z H Q I (by
 obtain⟨G,I,Γ,o,ae,r,e1,k⟩:=h;cases e1
 exact k _ _ r (Grow.refl _ _))
noncomputable def prt(g:M D):M (Option Int):=bnd g λd=>bnd (lft (asI d)) λi=>ret (some i)
theorem vp(ha:ED X B a ga):partD (some a) X B (prt ga):=λaa s Z H Q I h=>MK ha aa s Z H Q I (by
 obtain⟨G,I,Γ,o,ae,r,e1,k⟩:=h;obtain⟨d,Γ1,e2,e3⟩:=rK e1;obtain⟨i,Γ2,e4,e5⟩:=rK e3;cases e5;obtain⟨e6,rfl⟩:=sW e4;have:=ET e6;subst this
 exact⟨G,I,Γ,_,_,r,e2,λv H1 I1 r1 g1 hv=>⟨i,sQ hv,k _ _ r1 g1⟩⟩)
noncomputable def cutD(ds:List D)(lo hi:Option Int):List D:=(ds.drop (HT.sIx ds.length 0 lo)).take (HT.sIx ds.length ds.length hi - HT.sIx ds.length 0 lo)
theorem IsA.cut{K:PySem.W.Frag}(h:IsA K I ds xs)(lo hi:Option Int):IsA K I (cutD ds lo hi) (cutV xs lo hi):=by
 unfold cutD cutV;rw[←h.length];exact(h.drop _).take _
noncomputable def slF(d:D)(lo hi:Option Int):Option D:=match d with
 | .lst ds=>some (.lst (cutD ds lo hi))
 | .tup ds=>if HT.sIx ds.length 0 lo=0/\HT.sIx ds.length ds.length hi=ds.length then none else some (.tup (cutD ds lo hi))
 | _=>none
noncomputable def sl3{α:Type}(F:D->Option Int->Option Int->Option α)(g:M D)(gl gh:M (Option Int)):M α:=bnd g λd=>bnd gl λl=>bnd gh λh=>lft (F d l h)
theorem vP{lo hi:Option RW}(ha:ED X B a ga)(hl:partD lo X B gl)(hh:partD hi X B gh):ED X B (.Subscript a (.Slice lo hi none p2) pos) (sl3 slF ga gl gh):=PE.imp (Jg (OA.or Jb) ha hl hh) λZ H Q q=>by
 obtain⟨G,I,Γ,d,ae,r,e1,k⟩:=q;obtain⟨c,Γ1,e2,e3⟩:=rK e1;obtain⟨l,Γ2,e4,e5⟩:=rK e3;obtain⟨h,aM,e6,e7⟩:=rK e5;obtain⟨e8,rfl⟩:=sW e7;refine⟨G,I,Γ,c,Γ1,r,e2,λv H1 I1 r1 g1 hv=>⟨G,I1,Γ1,l,Γ2,r1,e4,λH2 I2 r2 g2=>⟨G,I2,Γ2,h,_,r2,e6,λH3 I3 r3 g3=>?_⟩⟩⟩;have gg:=g1.trans (g2.trans g3);have mT:=hv.mono (g2.trans g3).up;cases c with
 | lst ds =>
  cases e8;obtain⟨p,xs,rfl,h3,h4⟩:=sU mT;refine .inl ⟨p,xs,rfl,(Same.rdK r3.iH h3).sq,λp' hp=>?_⟩;exact(k.after gg) _ _ _ (r3.alloc hp _) (r3.growAlloc hp _) (Is.lst (RdK.of tm) ((h4.cut l h).mono (tW (r3.iFree hp) _)))
 | tup ds =>
  unfold slF at e8;by_cases hw:HT.sIx ds.length 0 l=0/\HT.sIx ds.length ds.length h=ds.length
  ·simp only[hw,and_self,if_true] at e8;cases e8
  ·simp only[if_neg hw] at e8;cases e8;obtain⟨p,xs,rfl,h3,h4⟩:=sY mT;exact .inr ⟨p,xs,rfl,Same.sqT r3.iH h3,by rw[←h4.length];exact hw,λp' hp=>(k.after gg).tup r3 hp (h4.cut l h)⟩
 | _=>cases e8
noncomputable def minF(ds:List D):Option D:=match ds with
 | [.int i,.int j]=>some (.int (if j < i then j else i))
 | _=>none
noncomputable def maxF(ds:List D):Option D:=match ds with
 | [.int i,.int j]=>some (.int (if j > i then j else i))
 | _=>none
theorem y6{p:Pos}(hc:X.calm=true)(hg:Gl X "min")(hm:X.mg "min"=none)(ha:AD X B (e::es) t)(he:e_ (e::es) X.env=(false,eval e X.env)::e_ es X.env:=by rfl)(aC:(R4 pos (e_ es X.env)).any (·.1)=false:=by rfl):
  ED X B (.Call (.Name "min" p) (e::es) [] pos) (fn1 minF t):=wo (IJ hc) (λds d e B G I H Z Γ xs Q r h k=>by
 unfold minF at e;split at e
 ·cases e;obtain⟨x,y,rfl,hx,hy⟩:=h.two;exact⟨_,_,by rw[sQ hx,sQ hy],k.now r (Is.int _)⟩
 ·cases e) hg hm boot_min ha (by decide) (by decide) he aC
theorem wO{p:Pos}(hc:X.calm=true)(hg:Gl X "max")(hm:X.mg "max"=none)(ha:AD X B (e::es) t)(he:e_ (e::es) X.env=(false,eval e X.env)::e_ es X.env:=by rfl)(aC:(R4 pos (e_ es X.env)).any (·.1)=false:=by rfl):
  ED X B (.Call (.Name "max" p) (e::es) [] pos) (fn1 maxF t):=wo (P5 hc) (λds d e B G I H Z Γ xs Q r h k=>by
 unfold maxF at e;split at e
 ·cases e;obtain⟨x,y,rfl,hx,hy⟩:=h.two;exact⟨_,_,by rw[sQ hx,sQ hy],k.now r (Is.int _)⟩
 ·cases e) hg hm boot_max ha (by decide) (by decide) he aC
noncomputable def tupF(ds:List D):Option D:=match ds with
 | [.lst xs]=>some (.tup xs)
 | [.tup xs]=>some (.tup xs)
 | _=>none
noncomputable def lstF(ds:List D):Option (List D):=match ds with
 | [.lst xs]=>some xs
 | [.tup xs]=>some xs
 | _=>none
theorem w8{p:Pos}(hg:Gl X "tuple")(hm:X.mg "tuple"=none)(ha:AD X B [e] t)(he:e_ [e] X.env=(false,eval e X.env)::e_ [] X.env:=by rfl)(aC:(R4 pos (e_ [] X.env)).any (·.1)=false:=by rfl):
  ED X B (.Call (.Name "tuple" p) [e] [] pos) (fn1 tupF t):=Hm Iv (λds d e B G I H Z Γ xs Q r h k=>by
 unfold tupF at e;split at e
 ·cases e;obtain⟨x,rfl,hx⟩:=h.one;obtain⟨q,zs,rfl,h3,h4⟩:=sU hx;exact⟨q,zs,rfl,.inl ⟨(Same.rdK r.iH h3).sq,λp' hp=>k.tup r hp h4⟩⟩
 ·cases e;obtain⟨x,rfl,hx⟩:=h.one;obtain⟨q,zs,rfl,h3,h4⟩:=sY hx;exact⟨q,zs,rfl,.inr ⟨Same.sqT r.iH h3,k.now r (Is.tup h3 h4)⟩⟩
 ·cases e) hg hm boot_tuple ha (by decide) (by decide) he aC
theorem Cp{p:Pos}(hg:Gl X "list")(hm:X.mg "list"=none)(ha:AD X B [e] t)(he:e_ [e] X.env=(false,eval e X.env)::e_ [] X.env:=by rfl)(aC:(R4 pos (e_ [] X.env)).any (·.1)=false:=by rfl):
  EO X B (.Call (.Name "list" p) [e] [] pos) (fn1 lstF t):=Pp KQ (λds d e B G I H Z Γ xs Q r h k=>by
 unfold lstF at e;split at e
 ·cases e;obtain⟨x,rfl,hx⟩:=h.one;obtain⟨q,zs,rfl,h3,h4⟩:=sU hx;exact⟨q,zs,rfl,.inl ((Same.rdK r.iH h3).sq),λp' hp=>k.new r hp h4⟩
 ·cases e;obtain⟨x,rfl,hx⟩:=h.one;obtain⟨q,zs,rfl,h3,h4⟩:=sY hx;exact⟨q,zs,rfl,.inr (Same.sqT r.iH h3),λp' hp=>k.new r hp h4⟩
 ·cases e) hg hm boot_list ha (by decide) (by decide) he aC
noncomputable def isN(d:D):Bool:=match d with
 | .non=>true
 | _=>false
noncomputable def isNF(neg:Bool)(a b:D):Option D:=match b with
 | .non=>some (.bl (if neg then !isN a else isN a))
 | _=>none
theorem Eo{K:PySem.W.Frag}{a:D}{x:V}(h:Is K I a x):decide (x=V.non)=isN a:=by
 cases a with
 | non=>rw[uE h];rfl
 | bl _=>rw[tY h];rfl
 | int _=>rw[sQ h];rfl
 | str _=>rw[uG h];rfl
 | tup _=>obtain⟨_,_,rfl,_⟩:=sY h;rfl
 | lst _=>obtain⟨_,_,rfl,_⟩:=sU h;rfl
 | exc _ _=>obtain⟨_,_,rfl,_⟩:=Bf h;rfl
theorem Oh{K:PySem.W.Frag}:OpD K (λx y H Q=>y=.non/\Q (.bl (decide (x=.non))) H) (isNF false):=λa b d e B G I H Z Γ x y Q r hx hy k=>by
 unfold isNF at e;split at e
 ·cases e;exact⟨uE hy,by rw[Eo hx];exact k.now r (Is.bl _)⟩
 ·cases e
theorem Nl{K:PySem.W.Frag}:OpD K (λx y H Q=>y=.non/\Q (.bl (!decide (x=.non))) H) (isNF true):=λa b d e B G I H Z Γ x y Q r hx hy k=>by
 unfold isNF at e;split at e
 ·cases e;exact⟨uE hy,by rw[Eo hx];exact k.now r (Is.bl _)⟩
 ·cases e
theorem Iu(ha:ED X B a ga)(hb:ED X B b gb):TD X B (.Compare a [.Is] [b] pos) (tst (op2 (isNF false) ga gb)):=uZ O8 Oh ha hb (nomark _)
theorem DT(ha:ED X B a ga)(hb:ED X B b gb):TD X B (.Compare a [.IsNot] [b] pos) (tst (op2 (isNF true) ga gb)):=uZ Oa Nl ha hb (nomark _)
end
structure Kd where
 it:RV->i_->i_->Nat->Prop
 sq:RV->i_->Array b_->Prop
 nm:String
structure KdOk(k:Kd):Prop where
 itAt:∀{h h':RV}{i l:i_}{n:Nat},k.it h i l n->(∀o,h.get? i=some o->h'.get? i=some o)->k.it h' i l n
 sqAt:∀{h h':RV}{l:i_}{xs:Array b_},k.sq h l xs->(∀o,h.get? l=some o->h'.get? l=some o)->k.sq h' l xs
 itLt:∀{h:RV}{i l:i_}{n:Nat},k.it h i l n->i < h.objs.size
 sqLt:∀{h:RV}{l:i_}{xs:Array b_},k.sq h l xs->l < h.objs.size
 itObj:∀{h:RV}{i l:i_}{n:Nat},k.it h i l n->∃o,h.get? i=some o/\∀v,o.data≠.cell v
 iter:∀{prog:x_}{w:I_}{A:SH}{E:b_->c_->Prop}{s:c_}{l:i_}{xs:Array b_}{Q:b_->c_->Prop},k.sq s.heap l xs →
  Q (.ref s.heap.objs.size) { s with heap:=s.heap.push { cls:=.type k.nm,data:=.fields #[.ref l,.int 0 0] } }->r_ (t_ prog w) A (WR (.ref l)) Q E s
 new:∀{h:RV}{l:i_},k.it (h.push { cls:=.type k.nm,data:=.fields #[.ref l,.int 0 0] }) h.objs.size l 0
 item:∀{prog:x_}{w:I_}{A:SH}{E:b_->c_->Prop}{s:c_}{i l:i_}{n:Nat}{xs:Array b_}{x:b_}{Q:b_->c_->Prop},k.it s.heap i l n->k.sq s.heap l xs->xs[n]?=some x →
  (∀h',k.it h' i l (n+1)->RV.SameBut i s.heap h'->Q x { s with heap:=h' })->r_ (t_ prog w) A (XX (.ref i)) Q E s
 stop:∀{prog:x_}{w:I_}{A:SH}{E:b_->c_->Prop}{s:c_}{i l:i_}{n:Nat}{xs:Array b_}{Q:b_->c_->Prop},A.handled=none->k.it s.heap i l n->k.sq s.heap l xs->xs[n]?=none →
  (∀h' e,RV.ExtBut i s.heap h'->(∃o,h'.get? e=some o/\o.cls=.type "StopIteration")->E (.ref e) { s with heap:=h' })->r_ (t_ prog w) A (XX (.ref i)) Q E s
noncomputable def kdL:Kd:=⟨λh i l n=>h.IsListIter i l n,λh l xs=>h.IsList l xs, "list_iterator"⟩
noncomputable def kdT:Kd:=⟨λh i l n=>h.IsTupleIter i l n,λh l xs=>h.IsTuple l xs, "tuple_iterator"⟩
theorem Dx:KdOk kdL where
 itAt:=λh k=>h.at k
 sqAt:=λh k=>h.at k
 itLt:=λh=>by obtain⟨_,e,_⟩:=h;exact E_ e
 sqLt:=λh=>by obtain⟨_,e,_⟩:=h;exact E_ e
 itObj:=λh=>by obtain⟨o,e,_,d⟩:=h;exact⟨o,e,λv z=>by rw[d] at z;cases z⟩
 iter:=λh q=>S4 h q
 new:=⟨_,z_ _ rfl,rfl,rfl⟩
 item:=λh1 h2 h3 q=>wpAny_nextOf_list_item h1 h2 h3 q
 stop:=λhh h1 h2 h3 q=>wpAny_nextOf_list_end hh h1 h2 h3 q
section
variable{prog:x_}{w:I_}{E:b_->c_->Prop}{s:c_}
theorem Lp{α:Type}{Q:α->c_->Prop}(hh:A.handled=none)(k:∀(g:RV) (x:i_),(∀b o,s.heap.get? b=some o->g.get? b=some o)->(∃o,g.get? x=some o/\o.cls=.type "StopIteration")->E (.ref x) { s with heap:=g }):
  r_ (t_ prog w) A (stopIteration (α:=α)) Q E s:=by
 unfold stopIteration newExc newTuple;refine a_ (a_ (R6 (a_ (Ti (a:=b_.none) (by first | rfl | (simp only[Wo];rfl)) (R6 ?_ (by size_fits)))) (by size_fits)));unfold raiseNew;refine a_ (wpAny_handled ?_);rw[hh];exact a_ (d_ (wpAny_throw (k _ _ (λb o e=>f_ _ (f_ _ e)) ⟨_,z_ _ rfl,rfl⟩)))
theorem En{bp tp:i_}{Q:b_->c_->Prop}(hi:s.heap.IsTupleIter bp tp i)(hT:s.heap.IsTuple tp cells)(one:∀v,cells[i]?=some v->∀g:RV,g.IsTupleIter bp tp (i+1)->RV.SameBut bp s.heap g->Q v { s with heap:=g })(non:cells[i]?=none->A.handled=none/\∀(g:RV) (x:i_),RV.ExtBut bp s.heap g->(∃o,g.get? x=some o/\o.cls=.type "StopIteration")->E (.ref x) { s with heap:=g }):
  r_ (t_ prog w) A (XX (.ref bp)) Q E s:=by
 have ty:=hi.typeIs;obtain⟨oi,gi,ci,di⟩:=hi;obtain⟨ot,gt,ct,nt,dt⟩:=hT;unfold XX;refine a_ (Si (name:=Vl "__next__") ty Vn (Sl Vn ty F.entry_tuple_iterator_next ?_ (F.args_tuple_iterator_next_1 _)));refine a_ (Ti (a:=(b_.ref bp,[])) rfl ?_);refine a_ (Sj (i:=0) gi di (x:=.ref tp) rfl (wpAny_ite_split (λno=>absurd no l_) λ_=>?_));refine a_ (Sj (i:=1) gi di (x:=.int i 0) rfl (a_ (SE gt dt ?_)));dsimp only;rw[T4];cases hv:cells[i]? with
 | some v =>
  refine a_ (Tc gi di (by simp) (d_ ⟨v,rfl,d_ (one v hv _ ?_ (RV.SameBut.update ..))⟩));have low:=TJ di;exact⟨_,Sm _ gi (Tw (low _)),(Vu ..).trans ci,by rw[low];simp[Uv]⟩
 | none =>
  obtain⟨hh,k⟩:=non hv;refine a_ (WW (a_ (Tc gi di (by simp) (Lp hh λg x keep is=>k g x (λb o ne e=>keep b o ((RV.SameBut.update ..).extBut b o ne e)) is))))
end
theorem G3:KdOk kdT where
 itAt:=λh k=>by obtain⟨o,e,r⟩:=h;exact⟨o,k o e,r⟩
 sqAt:=λh k=>by obtain⟨o,e,r⟩:=h;exact⟨o,k o e,r⟩
 itLt:=λh=>by obtain⟨_,e,_⟩:=h;exact E_ e
 sqLt:=λh=>by obtain⟨_,e,_⟩:=h;exact E_ e
 itObj:=λh=>by obtain⟨o,e,_,d⟩:=h;exact⟨o,e,λv z=>by rw[d] at z;cases z⟩
 iter:=λh q=>WV h q
 new:=⟨_,z_ _ rfl,rfl,rfl⟩
 item:=λh1 h2 h3 q=>En h1 h2 (λv e g=>by rw[h3] at e;cases e;exact q g) λe=>by rw[h3] at e;cases e
 stop:=λhh h1 h2 h3 q=>En h1 h2 (λv e=>by rw[h3] at e;cases e) λ_=>⟨hh,q⟩
theorem Ft{H:Hp}{s:c_}{T:i_}(I:Inv X aa Z H s)(bh:∀b∈ch,FpOk X aa H b)(k:∀b u,b∉ch->s.heap.get? b=some u->h'.get? b=some u)(hT:s.heap.objs.size<=T)(new:ObjOk X.prog X.w (upd H T o) h' T o):Inv X aa Z (upd H T o) { s with heap:=h',toks:=t' }:=by
 have hf:=I.hok.fresh hT;have ne:∀{b u},H b=some u->b≠T:=λ{b u} e=>uQ e hf
 have cz:∀{b u},H b=some u->b∉ch:=λ{b u} e z=>by have:=(bh b z).1;rw[e] at this;cases this
 refine I.step (g':=s.gens) (d':=s.drawn) (ch:=ch) (λb hb=>⟨(bh b hb).2.2.2.1,(bh b hb).2.1,(bh b hb).2.2.2.2.1,(bh b hb).2.2.2.2.2⟩) (λb u _ _ hc e _=>k b u hc e) (λb u _ _ hc e _=>⟨u.slots,k b u hc e⟩) (λb u hc e n=>?_)
  (λb u hc e=>⟨u,k b u hc e⟩) (λb xs e=>by rw[sN (ne e)];exact e) (λb u v e=>by rw[sN (ne e)];exact e) (λb ps e=>⟨#[],by rw[sN (ne e),e];simp⟩) (λm hm=>?_) (λb u e=>?_) I.bare
 ·have nb:b≠T:=λz=>by have:=E_ e;rw[z] at this;exact absurd (K_ this hT) (SW _)
  rw[sN nb];exact n
 ·obtain⟨ob,es,ep,ho,r⟩:=hm;exact⟨ob,es,ep,k _ ob (λz=>(bh _ z).2.1 rfl) ho,r⟩
 ·by_cases hb:b=T
  ·subst hb;rw[tm] at e;cases e;exact new
  ·rw[sN hb] at e;refine(I.hok b u e).stay (λc v hc q=>k c v ?_ q) (λc q=>by rw[sN (ne q)];exact q) λc xs q=>by rw[sN (ne q)];exact q
   rcases hc with z | z
   ·rw[z];exact cz e
   ·exact cz z
theorem DX{H:Hp}{s:c_}(I:Inv X aa Z H s)(bh:∀b∈ch,FpOk X aa H b)(k:∀b u,b∉ch->s.heap.get? b=some u->h'.get? b=some u):Inv X aa Z H { s with heap:=h',toks:=t' }:=by
 have cz:∀{b u},H b=some u->b∉ch:=λ{b u} e z=>by have:=(bh b z).1;rw[e] at this;cases this
 refine I.step (g':=s.gens) (d':=s.drawn) (ch:=ch) (λb hb=>⟨(bh b hb).2.2.2.1,(bh b hb).2.1,(bh b hb).2.2.2.2.1,(bh b hb).2.2.2.2.2⟩) (λb u _ _ hc e _=>k b u hc e) (λb u _ _ hc e _=>⟨u.slots,k b u hc e⟩) (λb u hc e n=>n)
  (λb u hc e=>⟨u,k b u hc e⟩) (λb xs e=>e) (λb u v e=>e) (λb ps e=>⟨#[],by rw[e];simp⟩) (λm hm=>?_) (λb u e=>?_) I.bare
 ·obtain⟨ob,es,ep,ho,r⟩:=hm;exact⟨ob,es,ep,k _ ob (λz=>(bh _ z).2.1 rfl) ho,r⟩
 ·refine(I.hok b u e).stay (λc v hc q=>k c v ?_ q) (λc q=>q) λc xs q=>q
  rcases hc with z | z
  ·rw[z];exact cz e
  ·exact cz z
section
variable{prog:x_}{w:I_}{E:b_->c_->Prop}{s:c_}{k:Kd}
theorem FE(ok:KdOk k){z ta bS p q u v:i_}{xs ys:Array b_}{c0 c1:b_}{Q:PySem.Fin->c_->Prop}(D:ZipApart z ta bS p q u v)(sH:WP s.heap z ta bS .none)(Ta:Uj s.heap ta (.ref p) (.ref q))(To:Uj s.heap bS c0 c1)(P:k.it s.heap p u m)(P':k.it s.heap q v n)(U:k.sq s.heap u xs)(U':k.sq s.heap v ys)(fE:∀x y,xs[m]?=some x->ys[n]?=some y->∀g:RV,g.objs.size=s.heap.objs.size+1/\Uj g s.heap.objs.size x y->WP g z ta bS (Uv s.heap.objs.size)->Uj g bS x y->k.it g p u (m+1)/\k.it g q v (n+1) →
   (∀c o,(c≠z/\c≠bS/\c≠p/\c≠q)->s.heap.get? c=some o->g.get? c=some o)->Q (.done (.ret (.ref s.heap.objs.size))) { s with heap:=g })(gone:(xs[m]?=none\/ys[n]?=none)->A.handled=none/\∀(g:RV) (x:i_),(∀c o,(c≠z/\c≠bS/\c≠p/\c≠q)->s.heap.get? c=some o->g.get? c=some o)->(∃o,g.get? x=some o/\o.cls=.type "StopIteration")->E (.ref x) { s with heap:=g }):
  r_ (t_ prog w) A (S1.«zip.__next__» ⟨[.ref z],[]⟩) Q E s:=by
 refine a_ (Ti (a:=(b_.ref z,[])) rfl (a_ (Sj (i:=2) sH rfl (x:=.bool false) rfl (a_ (Sj (i:=3) sH rfl (x:=.ref ta) rfl (a_ (SE Ta rfl ?_)))))));refine a_ (m:=S1.SmallTypes.ownedTupleIsFree (.ref z)) (a_ (Sj (i:=0) sH rfl (x:=.none) rfl (d_ ?_)));rw[if_pos rfl];refine a_ (WW (a_ (Sj (i:=4) sH rfl (x:=.ref bS) rfl (a_ (Uk sH (by simp) λg1 Z1 b1=>?_)))));replace Z1:WP g1 z ta bS .ellipsis:=Z1
 have kO:∀(g:RV) (x:i_),WP g z ta bS .ellipsis->(∃o,g.get? x=some o/\o.cls=.type "StopIteration")->(∀g':RV,RV.SameBut z g g'->(∃o,g'.get? x=some o/\o.cls=.type "StopIteration")->E (.ref x) { s with heap:=g' }) →
   r_ (t_ prog w) A (setField (.ref z) 0 .none) (λ_ s'=>E (.ref x) s') E { s with heap:=g }:=λg x Zg is kk=>by
  obtain⟨o,e1,e2⟩:=is;refine Uk Zg (by simp) λg' _ b'=>kk g' b' ⟨o,b'.extBut _ _ (λsame=>?_) e1,e2⟩
  rw[same,Zg] at e1;cases e1;simp at e2
 have f1:∀c o,c≠z->s.heap.get? c=some o->g1.get? c=some o:=λc o ne e=>b1.extBut _ _ ne e
 refine a_ ?_;rw[VS,VS,List.zipIdx_nil,Ui];refine a_ (a_ (wpAny_onRaise (a_ (m:=XX (.ref p)) ?_)));have P1:=ok.itAt P λo e=>f1 _ o D.i1z e
 have U1:=ok.sqAt U λo e=>f1 _ o D.l1z e
 cases hx:xs[m]? with
 | none =>
  obtain⟨hh,out⟩:=gone (.inl hx);exact ok.stop hh P1 U1 hx λg2 x b2 is=>kO g2 x (b2 _ _ D.i1z.symm Z1) is λg' b' fi=>out g' x (λc o ne e=>b'.extBut _ _ ne.1 (b2 _ _ ne.2.2.1 (f1 c o ne.1 e))) fi
 | some x =>
  refine ok.item P1 U1 hx λg2 P2 b2=>d_ ?_
  have mU:Uj g2 bS c0 c1:=b2.extBut _ _ D.TOi1 (f1 _ _ D.TOz To);refine a_ (SE mU rfl (a_ (Wp mU λg3 kQ b3=>a_ (UY (d_ ?_)))));replace kQ:Uj g3 bS x c1:=kQ;have f3:∀c o,c≠bS->c≠p->g1.get? c=some o->g3.get? c=some o:=λc o n1 n2 e=>b3.extBut _ _ n1 (b2.extBut _ _ n2 e)
  have Z3:WP g3 z ta bS .ellipsis:=f3 _ _ D.TOz.symm D.i1z.symm Z1;dsimp only;rw[Ui];refine a_ (a_ (wpAny_onRaise (a_ (m:=XX (.ref q)) ?_)));have Q3:=ok.itAt P' λo e=>f3 _ o D.TOi2.symm D.i12.symm (f1 _ o D.i2z e)
  have V3:=ok.sqAt U' λo e=>f3 _ o D.l2TO D.l2i1 (f1 _ o D.l2z e)
  cases hy:ys[n]? with
  | none =>
   obtain⟨hh,out⟩:=gone (.inr hy);exact ok.stop hh Q3 V3 hy λg4 x b4 is=>kO g4 x (b4 _ _ D.i2z.symm Z3) is λg' b' fi=>out g' x (λc o ne e=>b'.extBut _ _ ne.1 (b4 _ _ ne.2.2.2 (f3 c o ne.2.1 ne.2.2.1 (f1 c o ne.1 e)))) fi
  | some y =>
   refine ok.item Q3 V3 hy λg4 Q4 b4=>d_ ?_
   have mV:Uj g4 bS x c1:=b4.extBut _ _ D.TOi2 kQ;refine a_ (SE mV rfl (a_ (Wp mV λg5 jb b5=>a_ (UY (d_ ?_)))));replace jb:Uj g5 bS x y:=jb;have f5:∀c o,c≠bS->c≠q->g3.get? c=some o->g5.get? c=some o:=λc o n1 n2 e=>b5.extBut _ _ n1 (b4.extBut _ _ n2 e)
   dsimp only;rw[Vg];refine d_ (a_ (SE jb rfl (a_ (wpAny_newTuple ?_))));have same:g5.objs.size=s.heap.objs.size:=b5.1.trans (b4.1.trans (b3.1.trans (b2.1.trans b1.1)));have Z5:WP g5 z ta bS .ellipsis:=f5 _ _ D.TOz.symm D.i2z.symm Z3;have dB:g5.objs.size≠z:=Vk (E_ Z5);have Z6:WP (g5.push { cls:=.type "tuple", data:=.seq #[x,y] }) z ta bS .ellipsis:=f_ _ Z5;refine a_ (m:=S1.SmallTypes.ownedTupleHandOut (.ref z) (.ref g5.objs.size)) (a_ (Uk Z6 (by simp) λg7 Z7 b7=>?_));refine Uk Z7 (by simp) λg8 Z8 b8=>d_ ?_
   replace Z8:WP g8 z ta bS (Uv g5.objs.size):=Z8;have f8:∀c o,c≠z->g5.get? c=some o->g8.get? c=some o:=λc o ne e=>b8.extBut _ _ ne (b7.extBut _ _ ne (f_ _ e))
   have T8:Uj g8 g5.objs.size x y:=b8.extBut _ _ dB (b7.extBut _ _ dB (z_ _ rfl));have gX:g8.objs.size=g5.objs.size+1:=b8.1.trans (b7.1.trans (Tt ..));show Q (.done (.ret (.ref g5.objs.size))) { s with heap:=g8 };rw[same] at Z8 T8 gX ⊢
   exact fE x y hx hy g8 ⟨gX,T8⟩ Z8 (f8 _ _ D.TOz jb) ⟨ok.itAt P2 λo e=>f8 _ o D.i1z (f5 _ o D.TOi1.symm D.i12 (b3.extBut _ _ D.TOi1.symm e)),ok.itAt Q4 λo e=>f8 _ o D.i2z (b5.extBut _ _ D.TOi2.symm e)⟩
    λc o ne e=>f8 c o ne.1 (f5 c o ne.2.1 ne.2.2.2 (f3 c o ne.2.1 ne.2.2.1 (f1 c o ne.1 e)))
noncomputable abbrev zk1(k:Kd)(h:RV)(l1:i_):RV:=h.push { cls:=.type k.nm,data:=.fields #[.ref l1,.int 0 0] }
noncomputable abbrev zk2(k:Kd)(h:RV)(l1 l2:i_):RV:=(zk1 k h l1).push { cls:=.type k.nm,data:=.fields #[.ref l2,.int 0 0] }
noncomputable abbrev zk3(k:Kd)(h:RV)(l1 l2:i_):RV:=(zk2 k h l1 l2).push { cls:=.type "tuple", data:=.seq #[.ref h.objs.size,.ref (zk1 k h l1).objs.size] }
noncomputable abbrev zk4(k:Kd)(h:RV)(l1 l2:i_):RV:=(zk3 k h l1 l2).push { cls:=.type "tuple", data:=.seq #[.none,.none] }
noncomputable abbrev zk5(k:Kd)(h:RV)(l1 l2:i_):RV:=(zk4 k h l1 l2).push { cls:=.type "zip", data:=.fields #[.none,.bool false,.bool false,.ref (zk2 k h l1 l2).objs.size,.ref (zk3 k h l1 l2).objs.size] }
theorem O3(ok:KdOk k)(l1 l2:i_)(xs ys:Array b_):
  Meets (S1.«zip.__new__» ⟨[.type "zip", .ref l1,.ref l2],[]⟩) (λ_ R s=>k.sq s.heap l1 xs/\k.sq s.heap l2 ys ∧
   ∀h',WP h' (s.heap.objs.size+4) (s.heap.objs.size+2) (s.heap.objs.size+3) .none->Uj h' (s.heap.objs.size+2) (.ref s.heap.objs.size) (.ref (s.heap.objs.size+1)) →
    Uj h' (s.heap.objs.size+3) .none .none->k.it h' s.heap.objs.size l1 0->k.it h' (s.heap.objs.size+1) l2 0->(∀c o,s.heap.get? c=some o->h'.get? c=some o)->R (.ok (.ret (.ref (s.heap.objs.size+4)))) { s with heap:=h' }):=
 .of_wp λprog w A R s h=>by
  obtain⟨hp,gn,dw,tk,os⟩:=s;obtain⟨ec,eH,h⟩:=h;have gY:=sub_zip;have pA:k.sq (c_.heap ⟨hp,gn,dw,tk,os⟩) l1 xs:=ec;have pB:k.sq (c_.heap ⟨zk1 k hp l1,gn,dw,tk,os⟩) l2 ys:=ok.sqAt eH λo e=>f_ _ e
  wp_walk using ok.iter pA,ok.iter pB
  refine⟨_,rfl,?_⟩;have z1:(zk1 k hp l1).objs.size=hp.objs.size+1:=Tt ..;have z2:(zk2 k hp l1 l2).objs.size=hp.objs.size+2:=by rw[Tt,z1]
  have z3:(zk3 k hp l1 l2).objs.size=hp.objs.size+3:=by rw[Tt,z2]
  have z4:(zk4 k hp l1 l2).objs.size=hp.objs.size+4:=by rw[Tt,z3]
  have g5:(zk5 k hp l1 l2).get? (zk4 k hp l1 l2).objs.size=some { cls:=.type "zip", data:=.fields #[.none,.bool false,.bool false,.ref (zk2 k hp l1 l2).objs.size,.ref (zk3 k hp l1 l2).objs.size] }:=z_ _ rfl;have g4:(zk5 k hp l1 l2).get? (zk3 k hp l1 l2).objs.size=some { cls:=.type "tuple", data:=.seq #[.none,.none] }:=f_ _ (z_ _ rfl);have g3:(zk5 k hp l1 l2).get? (zk2 k hp l1 l2).objs.size=some { cls:=.type "tuple", data:=.seq #[.ref hp.objs.size,.ref (zk1 k hp l1).objs.size] }:=f_ _ (f_ _ (z_ _ rfl));have n2:k.it (zk2 k hp l1 l2) (zk1 k hp l1).objs.size l2 0:=ok.new;have n1:k.it (zk1 k hp l1) hp.objs.size l1 0:=ok.new;have i2:k.it (zk5 k hp l1 l2) (zk1 k hp l1).objs.size l2 0:=ok.itAt n2 λo e=>f_ _ (f_ _ (f_ _ e))
  have i1:k.it (zk5 k hp l1 l2) hp.objs.size l1 0:=ok.itAt n1 λo e=>f_ _ (f_ _ (f_ _ (f_ _ e)))
  show R (.ok (.ret (.ref (zk4 k hp l1 l2).objs.size))) { heap:=zk5 k hp l1 l2,gens:=gn,drawn:=dw,toks:=tk,os:=os };rw[z2,z3,z4] at g5;rw[z1,z2] at g3;rw[z3] at g4;rw[z1] at i2;rw[z4];exact h (zk5 k hp l1 l2) g5 g3 g4 i1 i2 λc o e=>f_ _ (f_ _ (f_ _ (f_ _ (f_ _ e))))
theorem Pr(ok:KdOk k){xs ys:Array b_}{Q:b_->c_->Prop}(ec:k.sq s.heap l1 xs)(eH:k.sq s.heap l2 ys)(made:∀n h',n=s.heap.objs.size->WP h' (n+4) (n+2) (n+3) .none->Uj h' (n+2) (.ref n) (.ref (n+1))->Uj h' (n+3) .none .none->k.it h' n l1 0->k.it h' (n+1) l2 0->(∀c o,s.heap.get? c=some o->h'.get? c=some o)->Q (.ref (n+4)) { s with heap:=h' }):
  r_ (t_ prog w) A (call (type "zip") ([l1,l2].map b_.ref)) Q E s:=
 callType_new F.called_zip (by decide) (F.typeCall_zip_2 _ _) (F.newCall_zip_2 _ _) (λobj=>F.args_object_init_3 obj _ _) F.entry_zip_new (O3 ok l1 l2 xs ys) ⟨ec,eH,λh' b1 b2 b3 b4 b5 b6=>⟨⟨_,b1,rfl⟩,made _ h' rfl b1 b2 b3 b4 b5 b6⟩⟩
end
section
variable{k:Kd}
noncomputable def Itz(rd:Hp->i_->List V->Prop)(l1 l2:i_):It:=
 ⟨λi H=>∃xs ys x y,rd H l1 xs/\rd H l2 ys/\xs[i]?=some x/\ys[i]?=some y,
  λi H v H'=>∃p x y,H p=none/\v=.ref p/\H'=upd H p (.tup [x,y])/\(∀xs,rd H l1 xs->xs[i]?=some x)/\(∀ys,rd H l2 ys->ys[i]?=some y),
  λi H=>∃xs ys,rd H l1 xs/\rd H l2 ys/\(xs.length<=i\/ys.length<=i)⟩
structure KdRd(K:PySem.W.Frag)(k:Kd)(rd:Hp->i_->List V->Prop):Prop where
 of:∀{X:Cx}{aa:List (i_×Obj)}{Z:L2.St}{H:Hp}{s:c_}{a:i_}{xs:List V},X.K=K->Inv X aa Z H s->rd H a xs->∃ac:List b_,Vals xs ac/\k.sq s.heap a ac.toArray
 inj:∀{X:Cx}{aa:List (i_×Obj)}{Z:L2.St}{H:Hp}{s:c_}{a:i_}{xs ys:List V},X.K=K->Inv X aa Z H s->rd H a xs->rd H a ys->xs=ys
theorem Fe(K:PySem.W.Frag):KdRd K kdL (λH a xs=>SqL K H a xs) where
 of:=λe I h=>by subst e;obtain⟨ac,r,t,_⟩:=I.list h;exact⟨ac,r,t.isList⟩
 inj:=λe I h h'=>by subst e;exact I.list_inj h h'
theorem FX(K:PySem.W.Frag):KdRd K kdT (λH a xs=>SqT K H a xs) where
 of:=λe I h=>by subst e;obtain⟨ac,r,t,_⟩:=I.tuple h;exact⟨ac,r,t⟩
 inj:=λe I h h'=>by subst e;exact I.tuple_inj h h'
theorem NQ{P:x_}{w:I_}{K:PySem.W.Frag}{x1:Nat}{rd:Hp->i_->List V->Prop}(ok:KdOk k)(kr:KdRd K k rd){z TI TO i1 i2:i_}(D:ZipApart z TI TO i1 i2 l1 l2):
  Turn P w K (.Tuple bL x1 tp) (Itz rd l1 l2) [z,TI,TO,i1,i2] z (λi h=>WP h z TI TO .none/\Uj h TI (.ref i1) (.ref i2)/\(∃a b,Uj h TO a b)/\k.it h i1 l1 i/\k.it h i2 l2 i) where
 mem:=by simp
 obj:=λi h st b hb=>by
  obtain⟨a1,a2,⟨x,y,a3⟩,a4,a5⟩:=st;rw[B_,B_,B_,B_,s_] at hb
  rcases hb with rfl | rfl | rfl | rfl | rfl
  ·exact⟨_,a1,λv q=>by cases(show fields _=WC v from q)⟩
  ·exact⟨_,a2,λv q=>by cases(show seq _ _=WC v from q)⟩
  ·exact⟨_,a3,λv q=>by cases(show seq _ _=WC v from q)⟩
  ·exact ok.itObj a4
  ·exact ok.itObj a5
 keep:=λi h h' st kk=>by
  obtain⟨a1,a2,⟨x,y,a3⟩,a4,a5⟩:=st;exact⟨kk _ (by simp) _ a1,kk _ (by simp) _ a2,⟨x,y,kk _ (by simp) _ a3⟩,ok.itAt a4 λo e=>kk _ (by simp) o e,ok.itAt a5 λo e=>kk _ (by simp) o e⟩
 item:=by
  intro X hP hw hK hc i aa s Z H E I hf st hg;subst hP hw;obtain⟨a1,a2,⟨av,bv,a3⟩,a4,a5⟩:=st;obtain⟨xs,ys,x,y,g1,g2,g3,g4⟩:=hg;obtain⟨ac,r1,t1⟩:=kr.of hK I g1;obtain⟨bF,r2,t2⟩:=kr.of hK I g2;obtain⟨u1,e1,e2⟩:=r1.get g3;obtain⟨u2,e3,e4⟩:=r2.get g4;have hT:s.TypeIs (.ref z) "zip":=⟨_,a1,rfl⟩;unfold UN;refine a_ (T6 (Si (name:=Vl "__next__") hT U8 (Sl U8 hT F.entry_zip_next (FE ok D a1 a2 a3 a4 a5 t1 t2 ?_ ?_) (Xb _))))
  case refine_2 =>
   intro non;have f1:ac.toArray[i]?=some u1:=by simpa using e1
   have f2:bF.toArray[i]?=some u2:=by simpa using e3
   rw[f1,f2] at non
   rcases non with non | non<;>cases non
  intro y1 y2 k1 k2 h' ⟨_,b5⟩ b1 b2 ⟨b3,b4⟩ b7;have f1:ac.toArray[i]?=some u1:=by simpa using e1
  have f2:bF.toArray[i]?=some u2:=by simpa using e3
  rw[f1] at k1;cases k1;rw[f2] at k2;cases k2;refine⟨_,rfl,d_ ⟨.ref s.heap.objs.size,rfl,wpAny_letOwnedTupleGo_zip b1 λh2 c1 c2=>?_⟩⟩;have lt:∀{b o},s.heap.get? b=some o->b≠s.heap.objs.size:=λ{b o} e=>R0 (E_ e)
  have gZ:=lt a1;have mW:=lt a2;have mX:=lt a3
  have kk:∀b u,b∉[z,TI,TO,i1,i2]->s.heap.get? b=some u->h2.get? b=some u:=λb u hb e=>by
   simp only[B_,UZ,or_false,not_or] at hb;exact c2.extBut _ _ hb.1 (b7 b u ⟨hb.1,hb.2.2.1,hb.2.2.2.1,hb.2.2.2.2⟩ e)
  have pT:Uj h2 s.heap.objs.size u1 u2:=c2.extBut _ _ (R5 gZ) b5;have I1:Inv X aa Z (upd H s.heap.objs.size (.tup [x,y])) { s with heap:=h2 }:=Ft (t':=s.toks) I hf kk (w_ _) ⟨by show 2<=A_;rw[Sy];decide,[u1,u2],.cons e2 (.cons e4 .nil),⟨_,pT,rfl,_,rfl⟩⟩;have fr:=I.hok.fresh (w_ s.heap.objs.size);refine⟨.ref s.heap.objs.size,_,I1,rfl,⟨s.heap.objs.size,x,y,fr,rfl,rfl,λzs hz=>by rw[kr.inj hK I hz g1];exact g3,λzs hz=>by rw[kr.inj hK I hz g2];exact g4⟩,⟨c1,c2.extBut _ _ D.TIz (b7 _ _ ⟨D.TIz,D.TITO,D.TIi1,D.TIi2⟩ a2),⟨u1,u2,c2.extBut _ _ D.TOz b2⟩,ok.itAt b3 λo e=>c2.extBut _ _ D.i1z e,ok.itAt b4 λo e=>c2.extBut _ _ D.i2z e⟩,λb hb=>?_⟩;have kR:=(hf b hb).1
  have nb:b≠s.heap.objs.size:=by
   rw[B_,B_,B_,B_,s_] at hb
   rcases hb with rfl | rfl | rfl | rfl | rfl
   ·exact gZ
   ·exact mW
   ·exact mX
   ·exact R0 (ok.itLt a4)
   ·exact R0 (ok.itLt a5)
  rw[sN nb];exact kR
 done:=by
  intro X hP hw hK hc i aa s Z H E I hf st hg;subst hP hw;obtain⟨a1,a2,⟨av,bv,a3⟩,a4,a5⟩:=st;obtain⟨xs,ys,g1,g2,g3⟩:=hg;obtain⟨ac,r1,t1⟩:=kr.of hK I g1;obtain⟨bF,r2,t2⟩:=kr.of hK I g2;have ec:=r1.length;have eH:=r2.length;have hT:s.TypeIs (.ref z) "zip":=⟨_,a1,rfl⟩;unfold UN;refine a_ (T6 (Si (name:=Vl "__next__") hT U8 (Sl U8 hT F.entry_zip_next (FE ok D a1 a2 a3 a4 a5 t1 t2 ?_ λ_=>⟨I.ok.hd hc,λh' e hk he=>?_⟩) (Xb _))))
  ·intro y1 y2 k1 k2;have m1:=(D_.mp k1).1;have m2:=(D_.mp k2).1;simp at m1 m2;omega
  ·obtain⟨o,ho,kS⟩:=he;refine a_ (TR (T:= "StopIteration") (b:=true) ⟨o,ho,kS⟩ Wq ?_);refine d_ ⟨rfl,DX (t':=s.toks) I hf λb u hb e=>?_⟩;simp only[B_,UZ,or_false,not_or] at hb;exact hk b u ⟨hb.1,hb.2.2.1,hb.2.2.2.1,hb.2.2.2.2⟩ e
 self:=λ_ _ _ _ _ st h=>wpAny_pyIter_zip st.1 h
end
section
variable{B:BB}{a b c:RW}{es:List RW}{gb gc:M D}
noncomputable def iZip(K:PySem.W.Frag)(ta:TA):TI:=λZ H R=>ta Z H λvs H1=>(∃l1 l2 xs ys,vs=[.ref l1,.ref l2]/\SqL K H1 l1 xs/\SqL K H1 l2 ys/\R (Itz (λH a xs=>SqL K H a xs) l1 l2) H1)\/(∃l1 l2 xs ys,vs=[.ref l1,.ref l2]/\SqT K H1 l1 xs/\SqT K H1 l2 ys/\R (Itz (λH a xs=>SqT K H a xs) l1 l2) H1)
theorem DR{k:Kd}{rd:Hp->i_->List V->Prop}(ok:KdOk k)(kr:KdRd X.K k rd){x1:Nat}{H:Hp}{s:c_}{R:It->Hp->Prop}{ys:List V}(I:Inv X aa Z H s)(h1:rd H l1 xs)(h2:rd H l2 ys)(q:R (Itz rd l1 l2) H):
  r_ (t_ X.prog X.w) X.A (call (.type "zip") [.ref l1,.ref l2]) (λv s1=>r_ (t_ X.prog X.w) X.A (WR v) (PIE X aa Z (.Tuple bL x1 tp) R) X.xe s1) X.xe s:=by
 obtain⟨ac,r1,t1⟩:=kr.of rfl I h1;obtain⟨bF,r2,t2⟩:=kr.of rfl I h2;refine Pr ok t1 t2 λn h' hn a1 a2 a3 a4 a5 a6=>wpAny_pyIter_zip a1 ?_
 subst hn;have I1:Inv X aa Z H { s with heap:=h' }:=I.kept (t':=s.toks) a6;refine⟨s.heap.objs.size+4,[s.heap.objs.size+4,s.heap.objs.size+2,s.heap.objs.size+3,s.heap.objs.size,s.heap.objs.size+1],_,_,H,rfl,I1,NQ ok kr (zipApart_new (ok.sqLt t1) (ok.sqLt t2)),⟨a1,a2,⟨_,_,a3⟩,a4,a5⟩,λb hb=>?_,q⟩;rw[B_,B_,B_,B_,s_] at hb;have up:∀n,FpOk X aa H (s.heap.objs.size+n):=λn=>I.fpOk (S5 _ _) (I.hok.fresh (S5 _ _))
 rcases hb with rfl | rfl | rfl | rfl | rfl
 ·exact up 4
 ·exact up 2
 ·exact up 3
 ·exact up 0
 ·exact up 1
theorem HL{x1:Nat}{p:Pos}(hg:Gl X "zip")(hm:X.mg "zip"=none)(ha:PA X [a,b] ta)(hs:e_ [a,b] X.env=[(false,eval a X.env),(false,eval b X.env)]:=by rfl)(cA:e_ [b] X.env=[(false,eval b X.env)]:=by rfl):
  PI X (.Tuple bL x1 tp) (.Call (.Name "zip" p) [a,b] [] pos) (iZip X.K ta):=by
 intro aa s Z H R I h;refine Yj (uu I hg hm boot_zip (N_ (thn (ha pos aa s Z H _ I h) λus s1 ⟨vs,H1,I1,r1,q1⟩=>?_) (by rw[hs,cA]) (by rw[cA];rfl)))
 rcases q1 with⟨l1,l2,xs,ys,e,h1,h2,q⟩ | ⟨l1,l2,xs,ys,e,h1,h2,q⟩
 ·subst e;obtain⟨u1,u2,rfl,e1,e2⟩:=r1.two;cases e1;cases e2;exact DR Dx (Fe _) I1 h1 h2 q
 ·subst e;obtain⟨u1,u2,rfl,e1,e2⟩:=r1.two;cases e1;cases e2;exact DR G3 (FX _) I1 h1 h2 q
noncomputable def pairsD(xs ys:List D):List D:=(xs.zip ys).map λp=>.tup [p.1,p.2]
noncomputable def zipI(ds:List D):Option (List D):=match ds with
 | [.lst xs,.lst ys]=>some (pairsD xs ys)
 | [.tup xs,.tup ys]=>some (pairsD xs ys)
 | _=>none
theorem G5{K:PySem.W.Frag}{rd:Hp->i_->List V->Prop}{ys:List V}{es:List D}(mono:∀{H a xs},Same I H->rd I a xs->rd H a xs)(inj:∀{H},Same I H->(∀zs,rd H l1 zs->zs=xs)/\(∀zs,rd H l2 zs->zs=ys)\/True)(h1:rd I l1 xs)(h2:rd I l2 ys)(i1:IsA K I ds xs)(i2:IsA K I es ys):Yields K I (pairsD ds es) (Itz rd l1 l2):=λi H s=>by
 have L1:=i1.length;have L2:=i2.length;refine⟨λd hd=>?_,λhi=>⟨xs,ys,mono s h1,mono s h2,?_⟩⟩
 ·unfold pairsD at hd;obtain⟨q,e1,rfl⟩:=getMap hd;obtain⟨e2,e3⟩:=TX.mp e1;obtain⟨x,f1,f2⟩:=i1.get e2;obtain⟨y,f3,f4⟩:=i2.get e3;refine⟨⟨xs,ys,x,y,mono s h1,mono s h2,f1,f3⟩,λv H2 hy=>?_⟩;obtain⟨p,x',y',g1,g2,g3,g4,g5⟩:=hy;have k1:=g4 xs (mono s h1);have k2:=g5 ys (mono s h2);rw[f1] at k1;cases k1;rw[f3] at k2;cases k2;exact .inr ⟨p,[q.1,q.2],[x,y],rfl,g2,g1,g3,IsA.cons f2 (IsA.cons f4 IsA.nil)⟩
 ·unfold pairsD at hi;rw[q_,XY] at hi;omega
theorem yG{x1:Nat}{p:Pos}(hg:Gl X "zip")(hm:X.mg "zip"=none)(ha:AD X B [a,b] t)(hs:e_ [a,b] X.env=[(false,eval a X.env),(false,eval b X.env)]:=by rfl)(cA:e_ [b] X.env=[(false,eval b X.env)]:=by rfl):
  ITD X B (.Tuple bL x1 tp) (.Call (.Name "zip" p) [a,b] [] pos) (fn1 zipI t):=PI.imp (HL hg hm ha hs cA) λZ H R q=>by
 obtain⟨G,I,Γ,ds,ae,r,e1,k⟩:=q;obtain⟨d,Γ1,e2,e3⟩:=rK e1;obtain⟨e4,rfl⟩:=sW e3;refine⟨G,I,Γ,d,_,r,e2,λvs H1 I1 r1 g1 hd=>?_⟩;unfold zipI at e4;split at e4
 ·cases e4;obtain⟨x,y,rfl,hx,hy⟩:=hd.two;obtain⟨l1,xs,rfl,h1,h2⟩:=sU hx;obtain⟨l2,ys,rfl,h3,h4⟩:=sU hy;exact .inl ⟨l1,l2,xs,ys,rfl,(Same.rdK r1.iH h1).sq,(Same.rdK r1.iH h3).sq,k _ _ _ r1 g1 (G5 (λs h=>by rcases h with h | h;exact .inl (Same.rd s h);exact .inr h) (λ_=>.inr trivial) h1.sq h3.sq h2 h4)⟩
 ·cases e4;obtain⟨x,y,rfl,hx,hy⟩:=hd.two;obtain⟨l1,xs,rfl,h1,h2⟩:=sY hx;obtain⟨l2,ys,rfl,h3,h4⟩:=sY hy;exact .inr ⟨l1,l2,xs,ys,rfl,Same.sqT r1.iH h1,Same.sqT r1.iH h3,k _ _ _ r1 g1 (G5 (λs h=>Same.sqT s h) (λ_=>.inr trivial) h1 h3 h2 h4)⟩
 ·cases e4
section
variable {k:Kd}
theorem drawsK(ok:KdOk k){prog:x_}{w:I_}(hh:A.handled=none)(it l:i_)(gW:l≠it)(af:Array b_):Draws prog w A it [it,l] af.size (λi v=>af[i]?=some v) (λi h=>k.it h it l i/\k.sq h l af) where
 live:=λi h st=>by obtain⟨o,e,_⟩:=ok.itObj st.1;exact⟨o,e⟩
 frame:=λi h h' st kk=>⟨ok.itAt st.1 λo e=>kk _ (by simp) o e,ok.sqAt st.2 λo e=>kk _ (by simp) o e⟩
 item:=λi s Q E hi st hQ=>ok.item st.1 st.2 (x:=af[i]) (by simp[hi]) λh' h1 h2=>hQ _ h' s.toks (by simp[hi]) ⟨h1,ok.sqAt st.2 λo e=>h2.extBut _ _ gW e⟩ h2
 done:=λs Q E st hE=>ok.stop hh st.1 st.2 (by simp) hE
theorem Kq(ok:KdOk k)(l:i_)(af:Array b_):
  Meets (S1.«enumerate.__new__» ⟨[.type "enumerate", .ref l],[]⟩) (λ_ R s=>k.sq s.heap l af ∧
   R (.ok (.ret (.ref (s.heap.push { cls:=.type k.nm,data:=.fields #[.ref l,.int 0 0] }).objs.size)))
    { s with heap:=(s.heap.push { cls:=.type k.nm,data:=.fields #[.ref l,.int 0 0] }).push { cls:=.type "enumerate", data:=.fields #[.none,.bool false,.ref s.heap.objs.size,Uv 0,.none,.none] } }):=
 .of_wp λprog w A R s h=>by
  obtain⟨hp,gn,dw,tk,os⟩:=s;obtain⟨hl,h⟩:=h;have gY:=sub_enumerate;have hL:k.sq (c_.heap ⟨hp,gn,dw,tk,os⟩) l af:=hl
  wp_walk using ok.iter hL
  refine wpAny_stack_any λframes=>d_ ?_
  split
  next c _ _ _ _ _=>cases c == type "enumerate"<;>(wp_walk using ok.iter hL;exact⟨_,rfl,h⟩)
  next=>wp_walk using ok.iter hL;exact⟨_,rfl,h⟩
end
end
section
variable{prog:x_}{w:I_}{E:b_->c_->Prop}{s:c_}{k:Kd}
noncomputable abbrev en1(k:Kd)(h:RV)(l:i_):RV:=h.push { cls:=.type k.nm,data:=.fields #[.ref l,.int 0 0] }
noncomputable abbrev en2(k:Kd)(h:RV)(l:i_):RV:=(en1 k h l).push { cls:=.type "enumerate", data:=.fields #[.none,.bool false,.ref h.objs.size,Uv 0,.none,.none] }
theorem Kw(ok:KdOk k){l:i_}{Q:b_->c_->Prop}(hL:k.sq s.heap l af)(made:∀n g,n=s.heap.objs.size->IsEnum g (n+1) n 0 .none->k.it g n l 0->(∀b o,s.heap.get? b=some o->g.get? b=some o)->Q (.ref (n+1)) { s with heap:=g }):
  r_ (t_ prog w) A (call (type "enumerate") ([l].map b_.ref)) Q E s:=by
 have dC:(en1 k s.heap l).objs.size=s.heap.objs.size+1:=Tt ..;have jc:(en2 k s.heap l).get? (en1 k s.heap l).objs.size=some _:=z_ _ rfl;rw[dC] at jc;refine callType_new F.called_enumerate (by decide) (F.typeCall_enumerate_1 _) (F.newCall_enumerate_1 _) (λobj=>F.args_object_init_2 obj _) F.entry_enumerate_new (Kq ok l af) ⟨hL,?_⟩;have put:Q (.ref (s.heap.objs.size+1)) { s with heap:=en2 k s.heap l }:=made _ _ rfl jc (ok.itAt ok.new λo e=>f_ _ e) λb o x=>f_ _ (f_ _ x)
 rw[←dC] at put jc;exact⟨⟨_,jc,rfl⟩,put⟩
end
section
variable{B:BB}{a b c:RW}{es:List RW}{gb gc:M D}{k:Kd}
noncomputable def Ite(rd:Hp->i_->List V->Prop)(l:i_):It:=
 ⟨λi H=>∃xs x,rd H l xs/\xs[i]?=some x,λi H v H'=>∃p x,H p=none/\v=.ref p/\H'=upd H p (.tup [.int i,x])/\(∀xs,rd H l xs->xs[i]?=some x),λi H=>∃xs,rd H l xs/\xs.length<=i⟩
theorem Nv{P:x_}{w:I_}{K:PySem.W.Frag}{x1:Nat}{rd:Hp->i_->List V->Prop}(ok:KdOk k)(kr:KdRd K k rd){z it l:i_}(kT:z≠it)(mY:l≠it)(pC:z≠l):
  Turn P w K (.Tuple bL x1 tp) (Ite rd l) [z,it] z (λi h=>(∃old,IsEnum h z it i old)/\k.it h it l i) where
 mem:=by simp
 obj:=λi h st b hb=>by
  obtain⟨⟨old,a1⟩,a2⟩:=st;rw[B_,s_] at hb
  rcases hb with rfl | rfl
  ·exact⟨_,a1,λv q=>by cases(show fields _=WC v from q)⟩
  ·exact ok.itObj a2
 keep:=λi h h' st kk=>by
  obtain⟨⟨old,a1⟩,a2⟩:=st;exact⟨⟨old,kk _ (by simp) _ a1⟩,ok.itAt a2 λo e=>kk _ (by simp) o e⟩
 item:=by
  intro X hP hw hK hc i aa s Z H E I hf st hg;subst hP hw;obtain⟨⟨old,a1⟩,a2⟩:=st;obtain⟨xs,x,g1,g3⟩:=hg;obtain⟨ac,r1,t1⟩:=kr.of hK I g1;obtain⟨u1,e1,e2⟩:=r1.get g3
  have aR:i < ac.toArray.size:=by
   have:=(o_.mp e1).1;simpa using this
  have D:=drawsK ok (prog:=X.prog) (w:=X.w) (A:=X.A.in1) (I.ok.hd hc) it l mY ac.toArray;refine wpAny_pyNext_enum_itemD D a1 ⟨a2,t1⟩ aR kT (by simp[kT,pC]) λy h' tk b0 b1 b2 b3 b4 b5=>?_
  have hy:y=u1:=by
   have fg:ac.toArray[i]?=some u1:=by simpa using e1
   have mZ:ac.toArray[i]?=some y:=b0;rw[fg] at mZ;cases mZ;rfl
  subst hy;refine⟨.ref s.heap.objs.size,rfl,wpAny_letOwnedTupleGo_enum b1 λh2 c1 c2=>?_⟩;have gZ:z≠s.heap.objs.size:=R0 (E_ a1);have pD:it≠s.heap.objs.size:=R0 (ok.itLt a2)
  have kk:∀b u,b∉[z,it]->s.heap.get? b=some u->h2.get? b=some u:=λb u hb e=>by
   simp only[B_,UZ,or_false,not_or] at hb;exact c2.extBut _ _ hb.1 (b5 b u hb.1 hb.2 e)
  have pT:=c2.extBut _ _ (R5 gZ) b3;have I1:Inv X aa Z (upd H s.heap.objs.size (.tup [.int i,x])) { s with heap:=h2,toks:=tk+1 }:=Ft (t':=tk+1) I hf kk (w_ _) ⟨by show 2<=A_;rw[Sy];decide,[.int i tk,y],.cons ⟨_,rfl⟩ (.cons e2 .nil),⟨_,pT,rfl,_,rfl⟩⟩;have fr:=I.hok.fresh (w_ s.heap.objs.size);refine⟨.ref s.heap.objs.size,_,I1,rfl,⟨s.heap.objs.size,x,fr,rfl,rfl,λzs hz=>by rw[kr.inj hK I hz g1];exact g3⟩,⟨⟨y,c1⟩,ok.itAt b2.1 λo e=>c2.extBut _ _ kT.symm e⟩,λb hb=>?_⟩;have kR:=(hf b hb).1
  have nb:b≠s.heap.objs.size:=by
   rw[B_,s_] at hb
   rcases hb with rfl | rfl
   ·exact gZ
   ·exact pD
  rw[sN nb];exact kR
 done:=by
  intro X hP hw hK hc i aa s Z H E I hf st hg;subst hP hw;obtain⟨⟨old,a1⟩,a2⟩:=st;obtain⟨xs,g1,g3⟩:=hg;obtain⟨ac,r1,t1⟩:=kr.of hK I g1;have ec:=r1.length;have hT:s.TypeIs (.ref z) "enumerate":=⟨_,a1,rfl⟩;have hx:ac.toArray[i]?=none:=by simp;omega
  unfold UN;refine a_ (T6 (Si (name:=Vl "__next__") hT V_ (Sl V_ hT F.entry_enumerate_next (a_ (Ti (a:=(b_.ref z,[])) rfl (a_ (Sj (i:=2) a1 rfl (x:=.ref it) rfl ?_)))) (F.args_enumerate_next_1 _))));refine a_ (ok.stop (I.ok.hd hc) a2 t1 hx λh' x cL dO=>?_);obtain⟨o,ho,kS⟩:=dO;refine a_ (TR (T:= "StopIteration") (b:=true) ⟨o,ho,kS⟩ Wq ?_);refine d_ ⟨rfl,DX (t':=s.toks) I hf λb u hb e=>?_⟩;simp only[B_,UZ,or_false,not_or] at hb;exact cL b u hb.2 e
 self:=λ_ _ _ _ _ st h=>by obtain⟨⟨old,a1⟩,_⟩:=st;exact Xc a1 h
noncomputable def iEnum(K:PySem.W.Frag)(ta:TA):TI:=λZ H R=>ta Z H λvs H1=>(∃l xs,vs=[.ref l]/\SqL K H1 l xs/\R (Ite (λH a xs=>SqL K H a xs) l) H1)\/(∃l xs,vs=[.ref l]/\SqT K H1 l xs/\R (Ite (λH a xs=>SqT K H a xs) l) H1)
theorem G1{rd:Hp->i_->List V->Prop}(ok:KdOk k)(kr:KdRd X.K k rd){x1:Nat}{H:Hp}{s:c_}{R:It->Hp->Prop}{l:i_}(I:Inv X aa Z H s)(h1:rd H l xs)(q:R (Ite rd l) H):
  r_ (t_ X.prog X.w) X.A (call (.type "enumerate") [.ref l]) (λv s1=>r_ (t_ X.prog X.w) X.A (WR v) (PIE X aa Z (.Tuple bL x1 tp) R) X.xe s1) X.xe s:=by
 obtain⟨ac,r1,t1⟩:=kr.of rfl I h1;refine Kw ok t1 λn h' hn a1 a4 a6=>Xc a1 ?_
 subst hn;have I1:Inv X aa Z H { s with heap:=h' }:=I.kept (t':=s.toks) a6;have lt:=ok.sqLt t1;refine⟨s.heap.objs.size+1,[s.heap.objs.size+1,s.heap.objs.size],_,_,H,rfl,I1,Nv ok kr (Nat.succ_ne_self _) (R0 lt) (Vk (UA lt)),⟨⟨_,a1⟩,a4⟩,λb hb=>?_,q⟩;rw[B_,s_] at hb;have up:∀n,FpOk X aa H (s.heap.objs.size+n):=λn=>I.fpOk (S5 _ _) (I.hok.fresh (S5 _ _))
 rcases hb with rfl | rfl
 ·exact up 1
 ·exact up 0
theorem KZ{x1:Nat}{p:Pos}(hg:Gl X "enumerate")(hm:X.mg "enumerate"=none)(ha:PA X [a] ta)(hs:e_ [a] X.env=[(false,eval a X.env)]:=by rfl):
  PI X (.Tuple bL x1 tp) (.Call (.Name "enumerate" p) [a] [] pos) (iEnum X.K ta):=by
 intro aa s Z H R I h;refine Yj (uu I hg hm boot_enumerate (N_ (thn (ha pos aa s Z H _ I h) λus s1 ⟨vs,H1,I1,r1,q1⟩=>?_) hs rfl))
 rcases q1 with⟨l1,xs,e,h1,q⟩ | ⟨l1,xs,e,h1,q⟩
 ·subst e;obtain⟨u1,rfl,e1⟩:=r1.one;cases e1;exact G1 Dx (Fe _) I1 h1 q
 ·subst e;obtain⟨u1,rfl,e1⟩:=r1.one;cases e1;exact G1 G3 (FX _) I1 h1 q
noncomputable def numD:Nat->List D->List D
 | _,[]=>[]
 | n,d::ds=>.tup [.int n,d]::numD (n+1) ds
theorem xA:∀{ds:List D}{n i:Nat}{d:D},(numD n ds)[i]?=some d->∃x,ds[i]?=some x/\d=.tup [.int ((n+i:Nat):Int),x]
 | [],n,i,d,h=>by rw[numD] at h;simp at h
 | c::ds,n,0,d,h=>by rw[numD] at h;simp at h;exact⟨c,rfl,h.symm⟩
 | c::ds,n,i+1,d,h=>by
  rw[numD] at h;obtain⟨x,e1,e2⟩:=xA (i:=i) (by simpa using h);refine⟨x,by simpa using e1,?_⟩;rw[e2,show n+1+i=n+(i+1) from by omega]
theorem E5:∀(ds:List D) (n:Nat),(numD n ds).length=ds.length
 | [],n=>by rw[numD]
 | c::ds,n=>by rw[numD,R8,R8,E5 ds]
noncomputable def enumI(ds:List D):Option (List D):=match ds with
 | [.lst xs]=>some (numD 0 xs)
 | [.tup xs]=>some (numD 0 xs)
 | _=>none
theorem FO{K:PySem.W.Frag}{rd:Hp->i_->List V->Prop}{l:i_}(mono:∀{H a xs},Same I H->rd I a xs->rd H a xs)(h1:rd I l xs)(i1:IsA K I ds xs):Yields K I (numD 0 ds) (Ite rd l):=λi H s=>by
 refine⟨λd hd=>?_,λhi=>⟨xs,mono s h1,?_⟩⟩
 ·obtain⟨y,e1,rfl⟩:=xA hd;obtain⟨x,f1,f2⟩:=i1.get e1;refine⟨⟨xs,x,mono s h1,f1⟩,λv H2 hy=>?_⟩;obtain⟨p,x',g1,g2,g3,g4⟩:=hy;have k1:=g4 xs (mono s h1);rw[f1] at k1;cases k1;refine .inr ⟨p,_,[.int i,x],rfl,g2,g1,g3,IsA.cons ?_ (IsA.cons f2 IsA.nil)⟩;rw[XZ];exact Is.int _
 ·rw[E5,i1.length] at hi;exact hi
theorem zX{x1:Nat}{p:Pos}(hg:Gl X "enumerate")(hm:X.mg "enumerate"=none)(ha:AD X B [a] t)(hs:e_ [a] X.env=[(false,eval a X.env)]:=by rfl):
  ITD X B (.Tuple bL x1 tp) (.Call (.Name "enumerate" p) [a] [] pos) (fn1 enumI t):=PI.imp (KZ hg hm ha hs) λZ H R q=>by
 obtain⟨G,I,Γ,ds,ae,r,e1,k⟩:=q;obtain⟨d,Γ1,e2,e3⟩:=rK e1;obtain⟨e4,rfl⟩:=sW e3;refine⟨G,I,Γ,d,_,r,e2,λvs H1 I1 r1 g1 hd=>?_⟩;unfold enumI at e4;split at e4
 ·cases e4;obtain⟨x,rfl,hx⟩:=hd.one;obtain⟨l1,xs,rfl,h1,h2⟩:=sU hx;exact .inl ⟨l1,xs,rfl,(Same.rdK r1.iH h1).sq,k _ _ _ r1 g1 (FO (λs h=>by rcases h with h | h;exact .inl (Same.rd s h);exact .inr h) h1.sq h2)⟩
 ·cases e4;obtain⟨x,rfl,hx⟩:=hd.one;obtain⟨l1,xs,rfl,h1,h2⟩:=sY hx;exact .inr ⟨l1,xs,rfl,Same.sqT r1.iH h1,k _ _ _ r1 g1 (FO (λs h=>Same.sqT s h) h1 h2)⟩
 ·cases e4
noncomputable def blsD:List D->Option (List Bool)
 | []=>some []
 | .bl b::ds=>match blsD ds with
  | some bs=>some (b::bs)
  | none=>none
 | _=>none
theorem xP:∀{ds:List D}{bs:List Bool},blsD ds=some bs->ds=bs.map .bl
 | [],bs,h=>by rw[blsD] at h;cases h;rfl
 | .bl b::ds,bs,h=>by
  rw[blsD] at h;cases e:blsD ds with
  | none=>rw[e] at h;cases h
  | some cs=>rw[e] at h;cases h;rw[xP e];rfl
 | .non::_,_,h=>by cases h
 | .int _::_,_,h=>by cases h
 | .str _::_,_,h=>by cases h
 | .tup _::_,_,h=>by cases h
 | .lst _::_,_,h=>by cases h
 | .exc _ _::_,_,h=>by cases h
theorem Cb{K:PySem.W.Frag}{I:Hp}:∀{bs:List Bool}{xs:List V},IsA K I (bs.map .bl) xs->xs=bs.map .bl
 | [],xs,h=>h.nil_inv
 | b::bs,xs,h=>by
  obtain⟨x,r,rfl,h1,h2⟩:=h.cons_inv;rw[tY h1,Cb h2];rfl
theorem B2:∀{bs:List Bool}{us:List b_},Vals (bs.map .bl) us->us=bs.map .bool
 | [],us,h=>by cases h;rfl
 | b::bs,us,h=>by
  cases h with
  | cons r t=>rw[B2 t];cases r;rfl
theorem Jn(bs:List Bool):(Sx bs.length).all (λi=>bs.getD i true)=bs.all id:=by
 induction bs with
 | nil=>rfl
 | cons b bs ih =>
  rw[R8,TB,S0,List.all_map,S0]
  congr 1
theorem K7(bs:List Bool):(Sx bs.length).any (λi=>bs.getD i true)=bs.any id:=by
 induction bs with
 | nil=>rfl
 | cons b bs ih =>
  rw[R8,TB,XW,List.any_map,XW]
  congr 1
theorem N4(hc:X.calm=true):CallR X (.builtin "all") (λxs H Q=>∃(p:i_) (bs:List Bool),xs=[.ref p]/\SqL X.K H p (bs.map .bl)/\Q (.bl (bs.all id)) H):=by
 intro aa s Z H xs us Q I r h;obtain⟨p,bs,rfl,hq,q⟩:=h;obtain⟨u,rfl,ru⟩:=vals1 r;cases ru;obtain⟨ac,rv,t,hz⟩:=I.list hq;have:=B2 rv;subst this;have lt:p < s.heap.objs.size:=by obtain⟨_,e,_⟩:=t.isList;exact E_ e
 refine call_all_walk (S4 t.isList ?_);refine⟨s.heap.objs.size,_,_,_,_,_,λi=>bs.getD i true,rfl,WX (A:=X.A.in1) (I.ok.hd hc) s.heap.objs.size p (R0 lt) _,⟨⟨_,z_ _ rfl,rfl,rfl⟩,t.isList.push _⟩,?_,?_⟩
 ·intro i v s' Q' E' hv hQ;have cD:(bs.map b_.bool)[i]?=some v:=by simpa using hv
  obtain⟨b,e1,rfl⟩:=getMap cD;have hQ:Q' (bs.getD i true) s':=hQ;rw[h_,e1] at hQ;exact So hQ
 ·intro h' tk kk;have e1:(bs.map b_.bool).toArray.size=bs.length:=by simp
  rw[e1,Jn];refine⟨.bl (bs.all id),H,I.kept λb o e=>kk b o (by simp only[s_];exact R0 (E_ e)) (f_ _ e),rfl,q⟩
theorem Km(hc:X.calm=true):CallR X (.builtin "any") (λxs H Q=>∃(p:i_) (bs:List Bool),xs=[.ref p]/\SqL X.K H p (bs.map .bl)/\Q (.bl (bs.any id)) H):=by
 intro aa s Z H xs us Q I r h;obtain⟨p,bs,rfl,hq,q⟩:=h;obtain⟨u,rfl,ru⟩:=vals1 r;cases ru;obtain⟨ac,rv,t,hz⟩:=I.list hq;have:=B2 rv;subst this;have lt:p < s.heap.objs.size:=by obtain⟨_,e,_⟩:=t.isList;exact E_ e
 refine call_any_walk (S4 t.isList ?_);refine⟨s.heap.objs.size,_,_,_,_,_,λi=>bs.getD i true,rfl,WX (A:=X.A.in1) (I.ok.hd hc) s.heap.objs.size p (R0 lt) _,⟨⟨_,z_ _ rfl,rfl,rfl⟩,t.isList.push _⟩,?_,?_⟩
 ·intro i v s' Q' E' hv hQ;have cD:(bs.map b_.bool)[i]?=some v:=by simpa using hv
  obtain⟨b,e1,rfl⟩:=getMap cD;have hQ:Q' (bs.getD i true) s':=hQ;rw[h_,e1] at hQ;exact So hQ
 ·intro h' tk kk;have e1:(bs.map b_.bool).toArray.size=bs.length:=by simp
  rw[e1,K7];refine⟨.bl (bs.any id),H,I.kept λb o e=>kk b o (by simp only[s_];exact R0 (E_ e)) (f_ _ e),rfl,q⟩
noncomputable def allF(ds:List D):Option D:=match ds with
 | [.lst xs]=>match blsD xs with
  | some bs=>some (.bl (bs.all id))
  | none=>none
 | _=>none
noncomputable def anyF(ds:List D):Option D:=match ds with
 | [.lst xs]=>match blsD xs with
  | some bs=>some (.bl (bs.any id))
  | none=>none
 | _=>none
theorem Ev{p:Pos}(hc:X.calm=true)(hg:Gl X "all")(hm:X.mg "all"=none)(ha:AD X B [e] t)(he:e_ [e] X.env=(false,eval e X.env)::e_ [] X.env:=by rfl)(aC:(R4 pos (e_ [] X.env)).any (·.1)=false:=by rfl):
  ED X B (.Call (.Name "all" p) [e] [] pos) (fn1 allF t):=wo (N4 hc) (λds d e B G I H Z Γ xs Q r h k=>by
 unfold allF at e;split at e
 ·split at e
  ·rename_i bs eb;cases e;have:=xP eb;subst this;obtain⟨x,rfl,hx⟩:=h.one;obtain⟨q,zs,rfl,h3,h4⟩:=sU hx;have:=Cb h4;subst this;exact⟨q,bs,rfl,(Same.rdK r.iH h3).sq,k.now r (Is.bl _)⟩
  ·cases e
 ·cases e) hg hm boot_all ha (by decide) (by decide) he aC
theorem Pj{p:Pos}(hc:X.calm=true)(hg:Gl X "any")(hm:X.mg "any"=none)(ha:AD X B [e] t)(he:e_ [e] X.env=(false,eval e X.env)::e_ [] X.env:=by rfl)(aC:(R4 pos (e_ [] X.env)).any (·.1)=false:=by rfl):
  ED X B (.Call (.Name "any" p) [e] [] pos) (fn1 anyF t):=wo (Km hc) (λds d e B G I H Z Γ xs Q r h k=>by
 unfold anyF at e;split at e
 ·split at e
  ·rename_i bs eb;cases e;have:=xP eb;subst this;obtain⟨x,rfl,hx⟩:=h.one;obtain⟨q,zs,rfl,h3,h4⟩:=sU hx;have:=Cb h4;subst this;exact⟨q,bs,rfl,(Same.rdK r.iH h3).sq,k.now r (Is.bl _)⟩
  ·cases e
 ·cases e) hg hm boot_any ha (by decide) (by decide) he aC
noncomputable def reprF(ds:List D):Option D:=match ds with
 | [.bl b]=>some (.str (if b then "True" else "False"))
 | _=>none
end
theorem CompScope.of{cH sc:Vh}{N':List Str}(h:decide (sc.kind=.function/\(∀y∈sc.names,y.2≠.cell)/\(∀y∈sc.names,y.2=.local->sc.names.lookup y.1=some .local)/\(∀y∈sc.names,y.2=.free->cH.names.lookup y.1=some .cell\/cH.names.lookup y.1=some .free)/\N'.Nodup/\N'.length=m+N.length ∧
   (∀p∈(N'.drop m).zip N,((relab sc cH).names.lookup p.1=none)\/(p.1=p.2/\(relab sc cH).names.lookup p.1≠some .local)))=true):CompScope cH sc N N' m:=by
 obtain⟨h1,h2,h3,h4,h5,h6,h7⟩:=of_decide_eq_true h;exact⟨h1,h2,h3,h4,h5,h6,h7⟩
theorem vd{P:x_}{w:I_}{K:PySem.W.Frag}:FnOk P w K mg base CX0 k f fd ps (spD K λ_=>none):=by
 have no:∀vs H Q E,¬spD K (λ_=>none) vs H Q E:=λvs H Q E h=>by
  obtain⟨_,_,_,_,_,_,_,h,_⟩:=h;cases h
 exact⟨λvs H Q E h=>absurd h (no vs H Q E),λA outer s H args us vs Q E _ _ _ _ h=>absurd h (no vs H Q E)⟩
theorem IV{K:PySem.W.Frag}{H:Hp}{g:List R->Option (R×List R)}(mD:RdK K H a (ns.map V.int))(hg:∃rs,g [.val (.lst (ns.map D.int))]=some (.val (.bl true),rs)):spD K g [.ref a] H (λv _=>v=.bl true) λ_ _ _=>False:=by
 obtain⟨rs,hg⟩:=hg
 have m9:∀ns:List Int,IsA K H (ns.map D.int) (ns.map V.int):=λns=>by
  induction ns with
  | nil=>exact IsA.nil
  | cons n ns ih=>exact IsA.cons (Is.int n) ih
 refine⟨H,H,[.val (.lst (ns.map D.int))],.val (.bl true),rs,?_,rfl,hg,λv H' I' r g' hv=>tY (K:=K) (I:=I') hv⟩;refine⟨Same.refl _,Same.refl _,rfl,λi r e=>?_,λi j r r' v e e' m=>?_,λi ds e=>rfl⟩
 ·match i,e with
  | 0,e=>cases e;exact⟨_,rfl,Is.lst mD (m9 ns)⟩
 ·match i,e with
  | 0,e=>cases e;cases m
theorem KR{P:x_}{w:I_}{K:PySem.W.Frag}{mb:Str->Option b_}{CX:CXT}{x:Str}{sp:Sp}(KX:K.In aA.heap)(gM:aA.heap.Ns Sn mg)(hb:aA.heap.Ns XG mb)(pE:∀x:Str,x ≠ "__name__"->mb x=SR x)(fD:aA.heap.NoLimit)(hg:aA.gens=#[])(ha:aA.heap.get? a=some { cls:=.type "list", data:=.seq vs.toArray })(hi:W' vs ns)(hl:ns.length<=A_)(hr:Room k WD)(F:∀base:RV,K.In base->base.Ns Sn mg->FnOk P w K mg base CX k fa fd [x] sp)(kU:∀(s:c_) (u:b_),W5 s fd ⟨[u],[]⟩ [(x,u)])(eF:∀H:Hp,Only H->RdK K H a (ns.map V.int)->sp [.ref a] H (λv _=>v=.bl true) λ_ _ _=>False)(kW:∀H e s',CX [] H aA (λ_ _ _=>False) e s'->False):
  T_ (t_ P w) WD (.call (.ref fa) ⟨[.ref a],[]⟩) (λr s'=>r=.ok (.ret (.bool true))/\OldK aA.heap s'.heap/\s'.os=aA.os/\Ut s'.gens) aA:=by
 have rv:=EY hi;have nc:=hi.length
 -- from an abstract heap in which nothing but the script may be dk
 have j0:∀H:Hp,Only H->RdK K H a (ns.map V.int)->HOk P w H aA.heap->(∀b,H b≠none->b=a)->(H a≠none->K.lookup a=none) →
   T_ (t_ P w) WD (.call (.ref fa) ⟨[.ref a],[]⟩) (λr s'=>r=.ok (.ret (.bool true))/\OldK aA.heap s'.heap/\s'.os=aA.os/\Ut s'.gens) aA:=by
  intro H hO hS hok hA hK;have eK:∀{b:i_}{o:Obj},aA.heap.get? b=some o->H b=none->(hidT aA.heap H).get? b=some o:=λe n=>JL e n
  have gz:∀{b:i_}{o:Obj}{es:Array DictEntry}{ep:Nat},aA.heap.get? b=some o->o.data=.dict es ep->H b=none:=λ{b o es ep} e d=>by
   cases q:H b with
   | none=>rfl
   | some u =>
    have e':b=a:=hA b (by rw[q];simp);subst e';rw[ha] at e;cases e;have d':seq vs.toArray _=Data.dict es ep:=d;cases d'
  have jd:∀{b:i_}{m:Str->Option b_},aA.heap.Ns b m->(hidT aA.heap H).Ns b m:=λ{b m} ⟨o,es,ep,e,d,r⟩=>⟨o,es,ep,eK e (gz e d),d,r⟩
  have nn:K.In (hidT aA.heap H):=λb o e=>eK (KX b o e) (by
   cases q:H b with
   | none=>rfl
   | some u =>
    have e':b=a:=hA b (by rw[q];simp);subst e'
    rw[hK (by rw[q];simp)] at e;cases e)
  have hM:Mod K mg (hidT aA.heap H):=⟨nn,jd gM,⟨mb,jd hb,pE⟩,let ⟨mc,h1,h2⟩:=fD;⟨mc,jd h1,h2⟩⟩;have e0:Env0 P w K mg (hidT aA.heap H) WD [] aA H:=⟨rfl,hM,λb o e=>PP e,W_ (HB _ _),trivial,λb hb=>absurd (show b∈([]:List i_) from hb) (by simp),hok,.of_eq hg⟩;refine Tl ((F _ nn (jd gM)).run WD [] aA H ⟨[.ref a],[]⟩ [.ref a] [.ref a] _ _ hr e0 (kU aA (.ref a)) (.cons rfl .nil) (eF H hO hS)) λr s' h=>?_
  cases r with
  | error e=>exact(kW H e s' h).elim
  | ok fl =>
   cases fl with
   | next=>exact X' h
   | brk=>exact X' h
   | cont=>exact X' h
   | ret u =>
    obtain⟨v,H',os,bare,un,nr,r',q⟩:=h;have q':v=.bl true:=q;subst q';obtain rfl:u=b_.bool true:=r';refine⟨rfl,OldK.of_keep λb o e=>?_,os,bare⟩;cases q:H b with
    | none=>exact un.keep b o e q (by intro z;exact absurd (show b∈([]:List i_) from z) (by simp)) (by simp)
    | some u =>
     rcases hO b with z | ⟨ob,xs,z⟩
     ·rw[q] at z;cases z
     ·have z2:=un.frzs b ob _ z;obtain⟨e1,_⟩:=hok b _ z;obtain⟨e2,_⟩:=nr b _ z2;rw[e] at e1;cases e1;exact e2
 cases hk:K.lookup a with
 | some o =>
  -- the script is one of the module's own objects
  have e:=KX a o hk;rw[ha] at e;cases e;refine j0 (λ_=>none) (λ_=>.inl rfl) (.inr ⟨vs,_,hk,rv,by rw[nc];exact hl⟩) (λb u z=>by have z':(none:Option HO)=some u:=z;cases z') (λb z=>absurd rfl z) λz=>absurd rfl z
 | none =>
  refine j0 (λb=>if b=a then some (.frz { cls:=.type "list", data:=.seq vs.toArray } (.lst (ns.map V.int))) else none) (λb=>?_) (.inl (.inr ⟨{ cls:=.type "list", data:=.seq vs.toArray },if_pos rfl⟩)) (λb u z=>?_) (λb z=>?_) λ_=>hk
  ·by_cases hb:b=a
   ·exact .inr ⟨_,_,if_pos hb⟩
   ·exact .inl (if_neg hb)
  ·by_cases hb:b=a
   ·have z':=(if_pos hb).symm.trans z;cases z';subst hb;exact⟨ha,by rw[q_];exact hl,vs,_,rv,ha⟩
   ·have z':=(if_neg hb).symm.trans z;cases z'
  ·by_cases hb:b=a
   ·exact hb
   ·exact absurd (if_neg hb) z
theorem Pk{l:PySem.W.OpenLaw}{q:x_}{XP:(Str->Option b_)->RV->Prop}{YP:I_->RV->Prop}{d:DefRec}{K:Params->PySem.W.Frag}{CX:I_->CXT}{sp:I_->Sp}{x:Str}(hn:l.most=some n)(je:n<=A_)(gG:d.params.defaults=[])(hr:Room k WD)(hY:∀(w:I_) (h:RV),YP w h->(K w.params).In h)(F:∀(w:I_) (mg:Str->Option b_) (fa:i_) (h:RV),(K w.params).In h->h.Ns Sn mg->mg d.name=some (.ref fa) →
   ∃fd:S',(∀(s:c_) (u:b_),W5 s fd ⟨[u],[]⟩ [(x,u)]) ∧
    ∀base:RV,(K w.params).In base->base.Ns Sn mg->FnOk l.prog w (K w.params) mg base (CX w) k fa fd [x] (sp w))(eF:∀(w:I_) (H:Hp) (a:i_) (ns:List Int),ns.length<=n->Only H->RdK (K w.params) H a (ns.map V.int)->sp w [.ref a] H (λv _=>v=.bl true) λ_ _ _=>False)(kW:∀(w:I_) (H:Hp) (s:c_) (e:b_) (s':c_),CX w [] H s (λ_ _ _=>False) e s'->False):
  PySem.W.WalkO q cF XP YP l.row.toRowW d [] (λf vs=>PySem.call f vs):=by
 refine Att.MG hn gG λw s₀ aA mg mb fa o pm cd bU a vs ns G Y ho hd cp gI gJ eZ aR hg=>?_
 have KX:=hY w _ Y;obtain⟨fd,hb,hF⟩:=F w mg fa _ KX G.T.g gI;exact KR KX G.T.g G.T.b G.T.builtins G.T.nolimit hg gJ eZ (y_ aR je) hr hF hb (λH hO hS=>eF w H a ns aR hO hS) λH e s'=>kW w H aA e s'
noncomputable def un1{α:Type}(F:D->Option α)(g:M D):M α:=bnd g λd=>lft (F d)
section
variable{B:BB}
noncomputable def negI(d:D):Option D:=match d with
 | .int i=>some (.int (-i))
 | _=>none
theorem Lg:∀Z H Q,tD X.K B (un1 negI ga) Z H Q->tUn (rU λi=>.int (-i)) (tD X.K B ga) Z H Q:=λZ H Q q=>by
 obtain⟨G,I,Γ,d,ae,r,e1,k⟩:=q;obtain⟨d1,Γ1,e2,e3⟩:=rK e1;obtain⟨e4,rfl⟩:=sW e3;unfold negI at e4;split at e4
 ·cases e4;exact⟨G,I,Γ,_,_,r,e2,λv H1 I1 r1 g1 h1=>⟨_,sQ h1,k _ _ _ r1 g1 (Is.int _)⟩⟩
 ·cases e4
theorem zW(ha:ED X B e ga):ED X B (.UnaryOp .USub e pos) (un1 negI ga):=PE.imp (Mi Oi ha) Lg
end
end DL
namespace PySem.SeqAt
def RcLtAt(A:SH)(s:c_)(y x:b_)(b:Bool):Prop:=
 ∀(prog:x_) (w:I_) (E:b_->c_->Prop) (Q:b_->c_->Prop),Q (.bool b) s->r_ (t_ prog w) A (richCompare .Lt y x) Q E s
noncomputable def ltFrom(e lt:Nat->Bool)(d:Bool):List Nat->Bool
 | []=>d
 | i::r=>if e i then ltFrom e lt d r else lt i
theorem Jf(u v:i_)(us vs:Array b_)(p q:Nat)(du dv:Option i_)(ku kv:Array (Option b_))(e lt:Nat->Bool):
  Meets (S1.«tuple.__lt__» ⟨[.ref u,.ref v],[]⟩) (λA out s=>(s.heap.get? u=some ⟨.type "tuple", du,.seq us p,ku⟩/\s.heap.get? v=some ⟨.type "tuple", dv,.seq vs q,kv⟩) ∧
    (∀j (h1:j < us.size) (h2:j < vs.size),XA A.in1 s us[j] vs[j] (e j)/\(e j=false->RcLtAt A.in1 s us[j] vs[j] (lt j)))/\out (.ok (.ret (.bool (ltFrom e lt (decide (us.size < vs.size)) (Sx (min us.size vs.size)))))) s):=
 .of_wp λprog w A out s given=>by
  obtain⟨hp,gn,dw,tk,os⟩:=s;obtain⟨⟨gu,gv⟩,g9,nv⟩:=given;obtain⟨hG,hs⟩:∃hG:Nat->Prop,hG=λi=>out (.ok (.ret (.bool (ltFrom e lt (decide (us.size < vs.size)) ((Sx (min us.size vs.size)).drop i))))) ⟨hp,gn,dw,tk,os⟩:=⟨_,rfl⟩
  have fE:=AutoSeq1.sub_tuple_tuple;have len:(us.toList.zip vs.toList).length=min us.size vs.size:=by rw[XY];rfl
  wp_walk using VH gu,VH gv,wpAny_forIn_list _ (λleft ff now=>ff.1=none/\now=⟨hp,gn,dw,tk,os⟩/\∃i,left=(us.toList.zip vs.toList).drop i/\hG i) _
  case turn =>
   rintro⟨y,x⟩ left ff now ⟨aX,rfl,i,bp,say⟩
   have here:i < min us.size vs.size:=by
    rw[←len];exact Nat.lt_of_not_le λno=>by rw[UB no] at bp;exact List.cons_ne_nil _ _ bp
   have k1:i < us.size:=by omega
   have k2:i < vs.size:=by omega
   have cut:=R7 (l:=us.toList.zip vs.toList) (i:=i) (len▸here);rw[←bp,List.getElem_zip] at cut;obtain⟨yx,tail⟩:=List.cons.inj cut;obtain⟨rfl,rfl⟩:=Prod.mk.inj yx;rw[hs] at say;have j8:=R7 (l:=Sx (min us.size vs.size)) (i:=i) (by simpa using here);rw[VF] at j8;rw[j8,ltFrom] at say;have two:=g9 i k1 k2;refine a_ (two.1 prog w _ _ ?_);cases like:e i with
   | true =>
    rw[like,if_pos rfl] at say
    wp_walk
    exact⟨rfl,rfl,i+1,tail,by rw[hs];exact say⟩
   | false =>
    rw[like,if_neg l_] at say;refine a_ (WW (a_ (two.2 like prog w _ _ ?_)))
    wp_walk
    exact⟨_,rfl,say⟩
  case fin =>
   rintro⟨ff,_⟩ now ⟨aX,rfl,i,bp,say⟩;cases aX
   have fF:min us.size vs.size<=i:=by
    rw[←len];exact Wr.mp bp.symm
   rw[hs] at say;rw[UB (by simpa using fF),ltFrom] at say
   wp_walk
   exact⟨_,rfl,by simpa[S1.Tuple.tupleCompareSizes] using say⟩
  case h=>exact⟨rfl,rfl,0,rfl,by rw[hs];exact nv⟩
theorem RcLtAt.tuples{s:c_}{u v:i_}{us vs:Array b_}{e lt:Nat->Bool}(hu:s.heap.IsTuple u us)(hv:s.heap.IsTuple v vs)(room:A.units < S8)(g9:∀j (h1:j < us.size) (h2:j < vs.size),XA A.in1 s us[j] vs[j] (e j)/\(e j=false->RcLtAt A.in1 s us[j] vs[j] (lt j))):RcLtAt A s (.ref u) (.ref v) (ltFrom e lt (decide (us.size < vs.size)) (Sx (min us.size vs.size))):=by
 obtain⟨⟨_,du,_,ku⟩,gu,rfl,p,rfl⟩:=hu;obtain⟨⟨_,dv,_,kv⟩,gv,rfl,q,rfl⟩:=hv;exact λprog w E Q h=>richCompare_meets_room (op:=.Lt) ⟨_,gu,rfl⟩ ⟨_,gv,rfl⟩ F.slot_tuple_lt F.entry_tuple_lt (F.args_tuple_lt_2 _ _) (Jf u v us vs p q du dv ku kv e lt) ⟨⟨gu,gv⟩,g9,b_.noConfusion,h⟩ room
theorem RcLtAt.int_int{s:c_}(a:Int)(t:Tok)(b:Int)(u:Tok):RcLtAt A s (.int a t) (.int b u) (decide (a < b)):=λprog w E Q h=>PyProof.Rows.lt_int h
end PySem.SeqAt
namespace DL
open PySem PySem.Spec PyProof.Rows L2
section
variable{B:BB}{a b c:RW}{es:List RW}
noncomputable def rngV(n:Nat):List V:=(Sx n).map λ(k:Nat)=>V.int (0+(k:Int))
theorem B8:∀{xs:List V}{us:List b_},xs.length=us.length->(∀(i:Nat) x u,xs[i]?=some x->us[i]?=some u->RelV x u)->Vals xs us
 | [],[],_,_=>.nil
 | [],_::_,h,_=>by cases h
 | _::_,[],h,_=>by cases h
 | x::xs,u::us,h,k=>.cons (k 0 x u rfl rfl) (B8 (S6 h) λi y v e f=>k (i+1) y v e f)
theorem Hz{p:Pos}(hc:X.calm=true)(hl:Gl X "list")(kX:X.mg "list"=none)(hg:Gl X "range")(hm:X.mg "range"=none)(ha:PA X [a] ta)(hs:e_ [a] X.env=[(false,eval a X.env)]:=by rfl)(cA:e_ [.Call (.Name "range" p2) [a] [] cW] X.env=[(false,eval (.Call (.Name "range" p2) [a] [] cW) X.env)]:=by rfl):
  PE X (.Call (.Name "list" p) [.Call (.Name "range" p2) [a] [] cW] [] pos) (λZ H Q=>ta Z H λvs H1=>∃j:Int,vs=[.int j]/\-1000000<=j/\j<=1000000/\∀l,H1 l=none->Q (.ref l) (upd H1 l (.lst (rngV j.toNat)))):=by
 intro aa s Z H Q I h;refine Yj (uu I hl kX boot_list (N_ ?_ cA rfl));rw[cA];refine Ug (Yj (uu I hg hm XM (N_ (thn (ha cW aa s Z H _ I h) λus s1 ⟨vs,H1,I1,r1,q1⟩=>?_) hs rfl)));obtain⟨j,rfl,q1,q2,q⟩:=q1;obtain⟨u,rfl,t,rfl⟩:=vals1 r1;refine call_range_1 (Uw ?_);have size:rangeSize 0 j 1=j.toNat:=by rw[rangeSize_one];split<;>omega
 refine call_list_range (I1.ok.hd hc) (IsRange.new ..) (small_one (by decide) (by decide) (by omega) (by omega)) size (by omega) λg tk ag c' keep bp af=>?_
 refine⟨.ref _,_,I1.laid (t':=tk) (λb o e=>keep b o (f_ _ e)) ?_ (o:=.lst (rngV j.toNat)) ⟨?_,ag.toList,c',?_,bp⟩,rfl,q _ ?_⟩
 ·exact UW (by show _ < (RV.push _ _).objs.size;rw[Tt];exact UP _)
 ·show(rngV j.toNat).length<=A_;rw[rngV,q_,Vc,Sy];omega
 ·refine B8 (by rw[rngV,q_,Vc,Ss,af.1]) λi x u e f=>?_
  rw[V'] at f;obtain⟨t',rfl⟩:=af.2 i u f;obtain⟨k,e1,rfl⟩:=getMap e;obtain⟨k1,k2⟩:=o_.mp e1;rw[VF] at k2;subst k2;exact⟨t',by simp⟩
 ·refine I1.hok.fresh (UW ?_);show _ < (RV.push _ _).objs.size;rw[Tt];exact UP _
theorem Lr{K:PySem.W.Frag}(n:Nat):IsA K I (rngD 0 n) (rngV n):=by
 unfold rngD rngV
 induction Sx n with
 | nil=>exact IsA.nil
 | cons k ks ih=>exact IsA.cons (Is.int _) ih
theorem yL{p:Pos}(hc:X.calm=true)(hl:Gl X "list")(kX:X.mg "list"=none)(hg:Gl X "range")(hm:X.mg "range"=none)(ha:AD X B [a] t)(hs:e_ [a] X.env=[(false,eval a X.env)]:=by rfl)(cA:e_ [.Call (.Name "range" p2) [a] [] cW] X.env=[(false,eval (.Call (.Name "range" p2) [a] [] cW) X.env)]:=by rfl):
  EO X B (.Call (.Name "list" p) [.Call (.Name "range" p2) [a] [] cW] [] pos) (fn1 rngI1 t):=PE.imp (Hz hc hl kX hg hm ha hs cA) λZ H Q q=>by
 obtain⟨G,I,Γ,ds,ae,r,e1,k⟩:=q;obtain⟨d,Γ1,e2,e3⟩:=rK e1;obtain⟨e4,rfl⟩:=sW e3;obtain⟨j,rfl,⟨h1,h2⟩,rfl⟩:=FJ e4;refine⟨G,I,Γ,_,_,r,e2,λvs H1 I1 r1 g1 hd=>?_⟩;obtain⟨x,rfl,hx⟩:=hd.one;exact⟨j,by rw[sQ hx],h1,h2,λl hl=>(k.after g1).new r1 hl (Lr _)⟩
end
section
variable{prog:x_}{w:I_}{E:b_->c_->Prop}{s:c_}
def SlotAt(P:Nat->b_->Prop)(bt:Nat->Nat->Bool)(j:Nat)(cells:Array b_):Prop:=match j with
 | 0=>cells=#[]
 | j+1=>∃b,cells=#[b,b]/\P (Ub bt j) b
theorem Nq{it:i_}{wr:List i_}{P:Nat->b_->Prop}{St:Nat->RV->Prop}{Fit:c_->Prop}{out:Result->c_->Prop}(W:Walks prog w A.in1 it fp wr n P St)(j9:S∉fp)(XV:∀s,Fit s->∀i j vi vj,P i vi->P j vj->PySem.SeqAt.RcLtAt A.in1 s vi vj (bt i j))(stay:∀s h' tk,Fit s->(∀b o,b∉wr->b≠S->s.heap.get? b=some o->h'.get? b=some o)->Fit { s with heap:=h',toks:=tk })(hU:0 < n)(fin:∀v s,P (Ub bt (n - 1)) v->Fit s->out (.ok (.ret v)) s):∀(left:Nat) (s:c_) (cells:Array b_) (c j:Nat),j+left=n->St j s.heap->Fit s->SlotAt P bt j cells->s.heap.get? S=some { cls:=.type "list", dict:=none,data:=.seq cells c,slots:=#[] } →
   T_ (t_ prog w) A (.builtin "min.loop" ⟨[.ref it,.none,.ref S],[]⟩) out s:=by
 have apart:S∉wr:=λh=>j9 (W.sub _ h)
 have fj:∀{g:RV}{f:Obj->Obj}{b:i_}{o:Obj},b≠S->g.get? b=some o->(g.update S f).get? b=some o:=λne e=>(O_ _ _ (R5 ne)).trans e
 have cB:(toString "min"++toString ".loop":String) = "min.loop":=by decide
 intro left
 induction left with
 | zero =>
  intro s cells c j len st kY fG slot;obtain⟨m,rfl⟩:∃m,j=m+1:=⟨j - 1,by omega⟩;obtain⟨b,rfl,fH⟩:=fG;refine SG F.entry_min_loop ?_;rw[Tu Td _];refine a_ (m:=seqItems? (.ref S)) (SE slot rfl (a_ (m:=tryCatch (UN (.ref it)) _) (Ws (W.done s _ _ (len▸st) λg tk kk=>?_))));refine a_ (m:=updateSeq S λ_=>#[]) (Uc (kk S _ apart slot) rfl (a_ (UY (d_ (fin b _ (by rw[←len];exact fH) (stay s _ tk kY λx o n1 n2 e=>fj n2 (kk x o n1 e)))))))
 | succ left ih =>
  intro s cells c j len st kY fG slot;refine SG F.entry_min_loop ?_;rw[Tu Td _];refine a_ (m:=seqItems? (.ref S)) (SE slot rfl (a_ (m:=tryCatch (UN (.ref it)) _) (Ws (W.item j s _ _ (by omega) st λv g tk kZ jf kk=>?_))));have dD:=kk S _ apart slot;have hV:=stay s g tk kY λx o n1 _ e=>kk x o n1 e
  have next:∀(f:Obj->Obj) (dj:Array b_) (c':Nat),(g.update S f).get? S=some { cls:=.type "list", dict:=none,data:=.seq dj c',slots:=#[] }->SlotAt P bt (j+1) dj →
    T_ (t_ prog w) A (.builtin "min.loop" ⟨[.ref it,.none,.ref S],[]⟩) out { s with heap:=g.update S f,toks:=tk }:=λf dj c' here is =>
   ih _ dj c' (j+1) (by omega) (W.frame _ _ _ jf λb hb o e=>fj (λz=>j9 (z▸hb)) e) (stay { s with heap:=g,toks:=tk } _ tk hV λx o _ n2 e=>fj n2 e) is here
  cases j with
  | zero =>
   cases fG;refine a_ (m:=updateSeq S λ_=>#[v,v]) (Uc dD rfl ?_);rw[cB];exact d_ ⟨SU Td _,next _ _ _ (Sm _ dD rfl) ⟨v,rfl,kZ⟩⟩
  | succ m =>
   obtain⟨b,rfl,fH⟩:=fG;refine a_ (m:=tryCatch (Va [v,v] (richCompare .Lt v b >>= _)) _) (Ws (Sd (a_ (XV _ hV (m+1) (Ub bt m) v b kZ fH prog w _ _ (a_ (Sd (So (a_ (UY (d_ ?_))))))))));cases hb:bt (m+1) (Ub bt m) with
   | true =>
    rw[if_pos rfl];refine a_ (Uc dD rfl (a_ (UY ?_)));rw[cB];exact d_ ⟨SU Td _,next _ _ _ (Sm _ dD rfl) ⟨v,rfl,by rw[Ub,hb];exact kZ⟩⟩
   | false =>
    rw[if_neg l_];refine a_ (UY ?_);rw[cB];exact d_ ⟨SU Td _,ih _ _ c (m+2) (by omega) jf hV ⟨b,rfl,by rw[Ub,hb];exact fH⟩ dD⟩
theorem Ge(bt:Nat->Nat->Bool):∀k,Ub bt k<=k
 | 0=>w_ _
 | k+1=>by
  rw[Ub];split
  ·exact w_ _
  ·exact Nat.le_succ_of_le (Ge bt k)
theorem HW{p:i_}{Q:b_->c_->Prop}(hh:A.handled=none)(L:s.heap.IsList p af)(hU:0 < af.size)(XV:∀h' tk,(∀b o,s.heap.get? b=some o->h'.get? b=some o)->∀i j vi vj,af[i]?=some vi->af[j]?=some vj->PySem.SeqAt.RcLtAt A.in1 { s with heap:=h',toks:=tk } vi vj (bt i j))(fin:∀v h' tk,af[Ub bt (af.size - 1)]?=some v->(∀b o,s.heap.get? b=some o->h'.get? b=some o)->Q v { s with heap:=h',toks:=tk }):r_ (t_ prog w) A (call (.builtin "min") [.ref p]) Q E s:=by
 have low:p < s.heap.objs.size:=by obtain⟨_,e,_⟩:=L;exact E_ e
 refine call_function_tree F.kind_min F.plain_min F.entry_min (F.args_min1 _) ?_;refine a_ (Ti (a:=[none,none]) rfl (a_ (d_ (a_ (S4 L (a_ (R6 ?_)))))));have cB:(toString "min"++toString ".loop":String) = "min.loop":=by decide
 rw[cB];have W:=WX (prog:=prog) (w:=w) (A:=A.in1) hh s.heap.objs.size p (R0 low) af;have dC:∀o:Obj,(s.heap.push o).objs.size=s.heap.objs.size+1:=λo=>Tt ..
 refine d_ ⟨SU Td _,Nq (Fit:=λs'=>∃h' tk,s'={ s with heap:=h',toks:=tk }/\∀b o,s.heap.get? b=some o->h'.get? b=some o) (bt:=bt) W ?_ ?_ ?_ hU ?_ af.size _ #[] 0 0 (XZ _) ⟨⟨_,f_ _ (z_ _ rfl),rfl,rfl⟩,(L.push _).push _⟩ ⟨_,_,rfl,λb o e=>f_ _ (f_ _ e)⟩ rfl (z_ _ rfl)⟩
 ·rw[dC];intro z;rw[B_,s_] at z
  rcases z with z | z
  ·exact absurd z (Nat.succ_ne_self _)
  ·exact absurd z (Vk (UA low))
 ·rintro _ ⟨g,tk,rfl,keep⟩ i j vi vj hi hj;exact XV g tk keep i j vi vj hi hj
 ·rintro _ h' tk ⟨g,jg,rfl,keep⟩ k;refine⟨h',tk,rfl,λb o e=>k b o (λz=>?_) (λz=>?_) (keep b o e)⟩
  ·rw[s_] at z;exact R0 (E_ e) z
  ·rw[dC] at z;have:=E_ e;rw[z] at this;exact absurd this (Nat.not_lt.mpr (XE _))
 ·rintro v _ hv ⟨g,tk,rfl,keep⟩;exact fin v g tk hv keep
end
section
variable{B:BB}{a b c:RW}{es:List RW}{kr:Nat}
noncomputable def prD(p:Int×Int):D:=.tup [.int p.1,.int p.2]
noncomputable def ltP(p q:Int×Int):Bool:=if p.1 == q.1 then decide (p.2 < q.2) else decide (p.1 < q.1)
noncomputable def prsD:List D->Option (List (Int×Int))
 | []=>some []
 | .tup [.int a,.int b]::ds=>match prsD ds with
  | some ps=>some ((a,b)::ps)
  | none=>none
 | _=>none
theorem Mr:∀(ds:List D) (ps:List (Int×Int)),prsD ds=some ps->ds=ps.map prD:=by
 intro ds
 fun_induction prsD ds with
 | case1=>intro ps h;cases h;rfl
 | case2 a b ds qs e ih=>intro ps h;cases h;rw[ih qs e];rfl
 | case3 a b ds e ih=>intro ps h;cases h
 | case4 ds=>intro ps h;cases h
noncomputable def btP(ps:List (Int×Int))(i j:Nat):Bool:=ltP (ps.getD i (0,0)) (ps.getD j (0,0))
noncomputable def minP(ps:List (Int×Int)):Int×Int:=ps.getD (Ub (btP ps) (ps.length - 1)) (0,0)
open PySem.SeqAt in
theorem OP{s:c_}{u v:i_}{p q:Int×Int}{t1 t2 t3 t4:Tok}(room:A.units < S8)(hu:s.heap.IsTuple u #[.int p.1 t1,.int p.2 t2])(hv:s.heap.IsTuple v #[.int q.1 t3,.int q.2 t4]):RcLtAt A s (.ref u) (.ref v) (ltP p q):=by
 have:=RcLtAt.tuples (e:=λk=>if k=0 then p.1 == q.1 else p.2 == q.2) (lt:=λk=>if k=0 then decide (p.1 < q.1) else decide (p.2 < q.2)) hu hv room (λj h1 h2=>?_)
 ·have e:ltFrom (λk=>if k=0 then p.1 == q.1 else p.2 == q.2) (λk=>if k=0 then decide (p.1 < q.1) else decide (p.2 < q.2)) (decide (2 < 2)) [0,1]=ltP p q:=by
   simp only[ltFrom,ltP];by_cases z:p.1=q.1
   ·by_cases z2:p.2=q.2<;>simp[z,z2]
   ·simp[z]
  rw[←e];exact this
 ·match j,h1,h2 with
  | 0,_,_=>exact⟨XA.int_int _ _ _ _,λ_=>RcLtAt.int_int _ _ _ _⟩
  | 1,_,_=>exact⟨XA.int_int _ _ _ _,λ_=>RcLtAt.int_int _ _ _ _⟩
  | k+2,h,_=>exact absurd h (by simp)
theorem MI(hc:X.calm=true)(hu:X.A.units+100 < S8):CallR X (.builtin "min") (λxs H Q=>∃(p:i_) (zs:List V) (ps:List (Int×Int)),xs=[.ref p]/\SqL X.K H p zs/\ps≠[]/\zs.length=ps.length ∧
  (∀(i:Nat) z,zs[i]?=some z->∃q,z=.ref q/\SqT X.K H q [.int (ps.getD i (0,0)).1,.int (ps.getD i (0,0)).2])/\∀z,zs[Ub (btP ps) (ps.length - 1)]?=some z->Q z H):=by
 intro aa s Z H xs us Q I r h;obtain⟨p,zs,ps,rfl,hq,ne,len,gL,q⟩:=h;obtain⟨u,rfl,ru⟩:=vals1 r;cases ru;obtain⟨ac,rv,t,hz⟩:=I.list hq;have ln:=rv.length;have sz:ac.toArray.size=ps.length:=by rw[p_,←ln,len]
 have tup:∀i v,ac.toArray[i]?=some v->∃q t1 t2,v=.ref q/\s.heap.IsTuple q #[.int (ps.getD i (0,0)).1 t1,.int (ps.getD i (0,0)).2 t2]:=λi v hv=>by
  have cD:ac[i]?=some v:=by simpa using hv
  have hi:i < zs.length:=by rw[ln];exact(o_.mp cD).1
  obtain⟨q,e1,e2⟩:=gL i zs[i] (g_ hi);obtain⟨w,e3,e4⟩:=rv.get (g_ hi);rw[cD] at e3;cases e3;rw[e1] at e4;cases e4;obtain⟨bF,r2,t2,_⟩:=I.tuple e2;obtain⟨u1,u2,rfl,⟨k1,rfl⟩,⟨k2,rfl⟩⟩:=r2.two;exact⟨q,k1,k2,rfl,t2⟩
 refine HW (bt:=btP ps) (I.ok.hd hc) t.isList (by rw[sz];exact U9.mpr ne) (λg tk keep i j vi vj hi hj=>?_) λv g tk hv keep=>?_
 ·obtain⟨q1,t1,t2,rfl,T1⟩:=tup i vi hi;obtain⟨q2,t3,t4,rfl,T2⟩:=tup j vj hj;have up:∀{q:i_}{us:Array b_},s.heap.IsTuple q us->g.IsTuple q us:=λT=>by obtain⟨o,e,r⟩:=T;exact⟨o,keep _ o e,r⟩
  exact OP (by show X.A.units+1 < S8;omega) (up T1) (up T2)
 ·rw[sz] at hv;have cD:ac[Ub (btP ps) (ps.length - 1)]?=some v:=by simpa using hv
  have hi:Ub (btP ps) (ps.length - 1) < zs.length:=by rw[ln];exact(o_.mp cD).1
  obtain⟨w,e3,e4⟩:=rv.get (g_ hi);rw[cD] at e3;cases e3;exact⟨_,H,I.kept keep,e4,q _ (g_ hi)⟩
noncomputable def minlF(ds:List D):Option D:=match ds with
 | [.lst xs]=>match prsD xs with
  | some (p::ps)=>some (prD (minP (p::ps)))
  | _=>none
 | _=>none
theorem J4{p:Pos}(hc:X.calm=true)(hr:Room kr X.A)(hg:Gl X "min")(hm:X.mg "min"=none)(ha:AD X B [e] t)(he:e_ [e] X.env=(false,eval e X.env)::e_ [] X.env:=by rfl)(aC:(R4 pos (e_ [] X.env)).any (·.1)=false:=by rfl):
  ED X B (.Call (.Name "min" p) [e] [] pos) (fn1 minlF t):=wo (MI hc (hu100 hr)) (λds d e B G I H Z Γ xs Q r h k=>by
 unfold minlF at e;split at e
 ·split at e
  ·rename_i p1 ps eb;cases e;have:=Mr _ _ eb;subst this;obtain⟨x,rfl,hx⟩:=h.one;obtain⟨q,zs,rfl,h3,h4⟩:=sU hx;have L:=h4.length;rw[q_] at L
   have ka:∀(i:Nat) z,zs[i]?=some z->Is X.K I (prD ((p1::ps).getD i (0,0))) z:=λi z hz=>by
    have hi:i < (p1::ps).length:=by rw[L];exact(o_.mp hz).1
    obtain⟨z',e1,e2⟩:=h4.get (i:=i) (d:=prD (p1::ps)[i]) (by rw[C_,g_ hi];rfl);rw[hz] at e1;cases e1;rw[h_,g_ hi];exact e2
   refine⟨q,zs,p1::ps,rfl,(Same.rdK r.iH h3).sq,by simp,L.symm,λi z hz=>?_,λz hz=>k.now r (ka _ z hz)⟩;obtain⟨q2,ys,rfl,e1,e2⟩:=sY (ka i z hz);obtain⟨y1,y2,rfl,f1,f2⟩:=e2.two;rw[sQ f1,sQ f2] at e1;exact⟨q2,rfl,Same.sqT r.iH e1⟩
  ·cases e
 ·cases e) hg hm boot_min ha (by decide) (by decide) he aC
end
end DL
namespace DL
open PySem PySem.W PyProof.Rows
structure Ord(lt:Nat->Nat->Bool):Prop where
 as:∀a b,lt a b=true->lt b a=false
 tr:∀a b c,lt b a=false->lt c b=false->lt c a=false
section
variable{lt:Nat->Nat->Bool}{s:c_}
def askIn(n:Nat)(lt:Nat->Nat->Bool):Nat->Nat->(Bool->c_->Prop)->c_->Prop:=λi j C s=>i < n/\j < n/\C (lt i j) s
noncomputable def gt(p:Array Nat)(i:Nat):Nat:=p.getD i 0
def Pm(n:Nat)(p:Array Nat):Prop:=p.Perm (Sx n).toArray
def Dn(lt:Nat->Nat->Bool)(p:Array Nat)(m:Nat):Prop:=∀i j,i < j->j < m->lt (gt p i) (gt p j)=false
def Up(lt:Nat->Nat->Bool)(p:Array Nat)(m:Nat):Prop:=∀i j,i < j->j < m->lt (gt p j) (gt p i)=false
def Eqs(lt:Nat->Nat->Bool)(p:Array Nat)(a b:Nat):Prop:=∀i j,a<=i->i < b->a<=j->j < b->lt (gt p i) (gt p j)=false
theorem Pm.size{p:Array Nat}(h:Pm n p):p.size=n:=by
 have:=h.size_eq;simpa using this
theorem Pm.bd{p:Array Nat}(h:Pm n p)(pos:0 < n)(i:Nat):gt p i < n:=by
 unfold gt;by_cases hi:i < p.size
 ·have:p[i]∈(Sx n).toArray:=h.mem_iff.mp (TC hi);rw[Yk,dif_pos hi];simpa using this
 ·rw[Yk,dif_neg hi];exact pos
theorem zz{p:Array Nat}:gt p i=p[i]?.getD 0:=by
 unfold gt;exact S2 ..
theorem vm{p:Array Nat}(hj:j<=p.size)(k:Nat):gt (Xd p i j) k=if i<=k/\k < j then gt p (i+j - 1 - k) else gt p k:=by
 rw[zz,zz,zz];unfold Xd;rw[getElem?_mirror_all hj];split<;>rfl
theorem Fg{p:Array Nat}{cJ d:Nat}(hs:cJ < p.size)(hd:d<=cJ)(k:Nat):gt (bubble p cJ d) k=if k=cJ - d then gt p cJ else if cJ - d < k/\k<=cJ then gt p (k - 1) else gt p k:=by
 simp only[zz];rw[getElem?_bubble hs d hd];split
 ·rfl
 ·split<;>rfl
theorem Pm.rev{p:Array Nat}(h:Pm n p)(i j:Nat):Pm n (Xd p i j):=trans (mirror_perm _ _ _ _) h
theorem zq{α:Type}{nw:Nat->Nat->(Bool->c_->Prop)->c_->Prop}{Q:α->c_->Prop}{P:α->Prop}(hc:∀i j C,i < n->j < n->C (lt i j) s->nw i j C s)(hq:∀a,P a->Q a s):∀t:KasT α,t.kasWp (askIn n lt) (λa _=>P a) s->t.kasWp nw Q s
 | .ret a,h=>hq a h
 | .ask i j k,⟨h1,h2,h3⟩=>hc i j _ h1 h2 (zq hc hq (k (lt i j)) h3)
theorem xQ{α β:Type}{t:KasT α}{f:α->KasT β}{P:α->Prop}{Q:β->Prop}(h:t.kasWp (askIn n lt) (λa _=>P a) s)(k:∀a,P a->(f a).kasWp (askIn n lt) (λb _=>Q b) s):(t.bind f).kasWp (askIn n lt) (λb _=>Q b) s:=by
 rw[KasT.kasWp_bind];exact zq (λi j C h1 h2 h3=>⟨h1,h2,h3⟩) (λa ha=>k a ha) t h
variable (O:Ord lt)(two:2<=n)
include O
theorem Ord.irr(a:Nat):lt a a=false:=by
 cases h:lt a a with
 | false=>rfl
 | true=>rw[←h];exact O.as a a h
theorem Ord.lt_le{a b c:Nat}(h1:lt a b=true)(h2:lt c b=false):lt a c=true:=by
 cases h:lt a c with
 | true=>rfl
 | false =>
  -- c<=a,b<=c
  have:=O.tr b c a h2 h;rw[this] at h1;cases h1
include two
theorem AH{p:Array Nat}(hp:Pm n p):∀(f m:Nat),1<=m->(kas_asc p f m).kasWp (askIn n lt) (λm' _=>m<=m'/\m'<=m+f/\(∀k,m<=k->k < m'->lt (gt p k) (gt p (k - 1))=false)/\(m' < m+f->lt (gt p m') (gt p (m' - 1))=true)) s
 | 0,m,_=>by
  rw[kas_asc];exact⟨w_ _,w_ _,λk h1 h2=>by omega,λh=>by omega⟩
 | f+1,m,hm=>by
  rw[kas_asc];refine⟨hp.bd (by omega) m,hp.bd (by omega) (m - 1),?_⟩;cases h:lt (p.getD m 0) (p.getD (m - 1) 0) with
  | true =>
   dsimp only;rw[if_pos rfl];exact⟨w_ _,by omega,λk h1 h2=>by omega,λ_=>h⟩
  | false =>
   dsimp only;rw[if_neg l_];refine zq (λi j C h1 h2 h3=>⟨h1,h2,h3⟩) (λm' h'=>?_) _ (AH hp f (m+1) (by omega));obtain⟨a1,a2,a3,a4⟩:=h';refine⟨by omega,by omega,λk h1 h2=>?_,λh'=>a4 (by omega)⟩;by_cases z:k=m
   ·rw[z];exact h
   ·exact a3 k (by omega) h2
omit two in
theorem Up.of_steps{p:Array Nat}{m':Nat}(hm:Up lt p m)(st:∀k,m<=k->k < m'->1<=k->lt (gt p k) (gt p (k - 1))=false):Up lt p m':=by
 intro i j
 induction j with
 | zero=>intro h;omega
 | succ j ih =>
  intro dP hj;by_cases z:j+1 < m
  ·exact hm i (j+1) dP z
  ·have s1:=st (j+1) (by omega) hj (by omega);rw[Nat.add_sub_cancel] at s1;by_cases e:i=j
   ·rw[e];exact s1
   ·exact O.tr _ _ _ (ih (by omega) (by omega)) s1
omit two O in
theorem Dn.up{p:Array Nat}{m:Nat}(hm:m<=p.size)(h:Dn lt p m):Up lt (Xd p 0 m) m:=by
 intro i j dP hj;rw[vm hm,vm hm,if_pos ⟨Sh _,hj⟩,if_pos ⟨Sh _,by omega⟩];exact h _ _ (by omega) (by omega)
omit two O in
theorem Dn.turn{p:Array Nat}{a:Nat}(hm:m<=p.size)(h:Dn lt p m)(e:Eqs lt p a m):Dn lt (Xd p a m) m:=by
 intro i j dP hj;rw[vm hm,vm hm];by_cases h1:a<=i
 ·rw[if_pos ⟨h1,by omega⟩,if_pos ⟨by omega,hj⟩];exact e _ _ (by omega) (by omega) (by omega) (by omega)
 ·rw[if_neg (by omega)];by_cases h2:a<=j
  ·rw[if_pos ⟨h2,hj⟩];exact h _ _ (by omega) (by omega)
  ·rw[if_neg (by omega)];exact h _ _ dP hj
omit two in
theorem Dn.next{p:Array Nat}(h:Dn lt p m)(hm:1<=m)(st:lt (gt p (m - 1)) (gt p m)=false):Dn lt p (m+1):=by
 intro i j dP hj;by_cases z:j < m
 ·exact h i j dP z
 ·have:j=m:=by omega
  subst this;by_cases e:i=j - 1
  ·rw[e];exact st
  ·exact O.tr _ _ _ st (h i (j - 1) (by omega) (by omega))
theorem zy:∀(f:Nat) (p:Array Nat) (m q:Nat),Pm n p->1<=m->m+f<=n->q < m->Dn lt p m->Eqs lt p (m - (q+1)) m →
  (kas_desc f p m q).kasWp (askIn n lt) (λr _=>Pm n r.1/\1<=r.2.1/\r.2.1<=n/\r.2.2 < r.2.1/\Dn lt r.1 r.2.1/\Eqs lt r.1 (r.2.1 - (r.2.2+1)) r.2.1) s
 | 0,p,m,q,hp,h1,h2,h3,h4,h5=>by
  rw[kas_desc];exact⟨hp,h1,(by show m<=n;omega),h3,h4,h5⟩
 | f+1,p,m,q,hp,h1,h2,h3,h4,h5=>by
  rw[kas_desc]
  have one:∀(p':Array Nat),Pm n p'->Eqs lt p' (m+1 - (0+1)) (m+1):=λp' _ i j a b c d=>by
   have:i=m:=by omega
   have:j=m:=by omega
   subst i;subst j;exact O.irr _
  refine⟨hp.bd (by omega) m,hp.bd (by omega) (m - 1),?_⟩;cases h:lt (p.getD m 0) (p.getD (m - 1) 0) with
  | true =>
   dsimp only;rw[if_pos rfl];have st:lt (gt p (m - 1)) (gt p m)=false:=O.as _ _ h;split
   ·have sz:m<=p.size:=by rw[hp.size];omega
    refine zy f _ (m+1) 0 (hp.rev _ _) (by omega) (by omega) (by omega) (Dn.next O (h4.turn sz h5) h1 ?_) (one _ (hp.rev _ _));rw[vm sz,vm sz,if_pos ⟨by omega,by omega⟩,if_neg (by omega)];refine O.tr _ _ _ st ?_;exact h5 _ _ (by omega) (by omega) (by omega) (by omega)
   ·exact zy f _ (m+1) 0 hp (by omega) (by omega) (by omega) (Dn.next O h4 h1 st) (one _ hp)
  | false =>
   dsimp only;rw[if_neg l_];refine⟨hp.bd (by omega) (m - 1),hp.bd (by omega) m,?_⟩;cases h':lt (p.getD (m - 1) 0) (p.getD m 0) with
   | true =>
    dsimp only;rw[if_pos rfl];exact⟨hp,h1,(by show m<=n;omega),h3,h4,h5⟩
   | false =>
    dsimp only;rw[if_neg l_];refine zy f p (m+1) (q+1) hp (by omega) (by omega) (by omega) (Dn.next O h4 h1 h') λi j a b c d=>?_
    have up:∀i,m - (q+1)<=i->i < m->lt (gt p i) (gt p m)=false:=λi x y=>O.tr _ _ _ h' (h5 i (m - 1) x y (by omega) (by omega))
    have dn:∀i,m - (q+1)<=i->i < m->lt (gt p m) (gt p i)=false:=λi x y=>O.tr _ _ _ (h5 (m - 1) i (by omega) (by omega) x y) h
    by_cases zi:i=m
    ·by_cases zj:j=m
     ·rw[zi,zj];exact O.irr _
     ·rw[zi];exact dn j (by omega) (by omega)
    ·by_cases zj:j=m
     ·rw[zj];exact up i (by omega) (by omega)
     ·exact h5 i j (by omega) (by omega) (by omega) (by omega)
theorem Fa{p:Array Nat}(hp:Pm n p)(h1:1<=m)(h2:m<=n)(h:Dn lt p m):(kas_tail3 m n p).kasWp (askIn n lt) (λr _=>1<=r.1/\r.1<=n/\Pm n r.2/\Up lt r.2 r.1) s:=by
 unfold kas_tail3;refine xQ (AH O two (hp.rev 0 m) (n - m) m h1) λm' ⟨a1,a2,a3,_⟩=>?_
 have up:=h.up (by rw[hp.size];exact h2);exact⟨by omega,by omega,hp.rev 0 m,Up.of_steps O up λk x y _=>a3 k x y⟩
theorem DW{p:Array Nat}(hp:Pm n p)(h1:1<=m)(h2:m < n)(h:Dn lt p (m+1)):(kas_descPart m n p).kasWp (askIn n lt) (λr _=>1<=r.1/\r.1<=n/\Pm n r.2/\Up lt r.2 r.1) s:=by
 unfold kas_descPart;refine xQ (zy O two (n - (m+1)) p (m+1) 0 hp (by omega) (by omega) (by omega) h λi j a b c d=>?_) λr ⟨b1,b2,b3,b4,b5,b6⟩=>?_
 ·have:i=m:=by omega
  have:j=m:=by omega
  subst i;subst j;exact O.irr _
 ·split
  ·exact Fa O two (b1.rev _ _) b2 b3 (b5.turn (by rw[b1.size];exact b3) b6)
  ·exact Fa O two b1 b2 b3 b5
theorem HY{p:Array Nat}(hp:Pm n p):(kas_count n p).kasWp (askIn n lt) (λr _=>1<=r.1/\r.1<=n/\Pm n r.2/\Up lt r.2 r.1) s:=by
 unfold kas_count;refine xQ (AH O two hp (n - 1) 1 (w_ _)) λm ⟨a1,a2,a3,a4⟩=>?_
 have up1:Up lt p m:=Up.of_steps O (m:=1) (λi j x y=>by omega) λk x y z=>a3 k x y
 split
 ·exact⟨a1,by omega,hp,up1⟩
 ·rename_i ne;have ne:m≠n:=by simpa using ne
  have fJ:=a4 (by omega);split
  ·refine⟨hp.bd (by omega) 0,hp.bd (by omega) (m - 1),?_⟩;cases h:lt (p.getD 0 0) (p.getD (m - 1) 0) with
   | true =>
    dsimp only;rw[if_pos rfl];exact⟨a1,by omega,hp,up1⟩
   | false =>
    dsimp only;rw[if_neg l_]
    have all:Eqs lt p 0 m:=λi j x1 x2 y1 y2=>by
     -- the first is not XV than the fJ,and they rise
     have l0:∀i,i < m->lt (gt p i) (gt p 0)=false:=λi x=>by
      by_cases z:i=0
      ·rw[z];exact O.irr _
      ·exact up1 0 i (by omega) x
     have lz:∀j,j < m->lt (gt p (m - 1)) (gt p j)=false:=λj x=>by
      by_cases z:j=m - 1
      ·rw[z];exact O.irr _
      ·exact up1 j (m - 1) (by omega) (by omega)
     -- i against j: i<=fJ<=first<=j,whichever
     have f1:lt (gt p i) (gt p (m - 1))=false:=O.tr _ _ _ h (l0 i x2);exact O.tr _ _ _ (lz j y2) f1
    have sz:m<=p.size:=by rw[hp.size];omega
    have all2:Dn lt (Xd p 0 m) m:=Dn.turn sz (λi j x y=>all i j (Sh _) (by omega) (Sh _) y) all;refine DW O two (hp.rev _ _) a1 (by omega) (Dn.next O all2 a1 ?_);rw[vm sz,vm sz,if_pos ⟨Sh _,by omega⟩,if_neg (by omega)];refine O.tr _ _ _ (O.as _ _ fJ) ?_;exact all _ _ (Sh _) (by omega) (Sh _) (by omega)
  ·have:m=1:=by omega
   subst this;exact DW O two hp (w_ _) (by omega) (Dn.next O (λi j x y=>by omega) (w_ _) (O.as _ _ fJ))
theorem Cm{p:Array Nat}{k:Nat}(hp:Pm n p)(hk:k < n)(up:Up lt p k):∀(f l r:Nat),l<=r->r<=k->r - l<=f->(∀i,i < l->lt (gt p k) (gt p i)=false)->(∀i,r<=i->i < k->lt (gt p k) (gt p i)=true) →
  (kas_place p k f l r).kasWp (askIn n lt) (λl' _=>l'<=k/\(∀i,i < l'->lt (gt p k) (gt p i)=false)/\∀i,l'<=i->i < k->lt (gt p k) (gt p i)=true) s
 | 0,l,r,h1,h2,h3,h4,h5=>by
  rw[kas_place];exact⟨by omega,h4,λi x y=>h5 i (by omega) y⟩
 | f+1,l,r,h1,h2,h3,h4,h5=>by
  rw[kas_place];split
  ·exact⟨by omega,h4,λi x y=>h5 i (by omega) y⟩
  ·refine⟨hp.bd (by omega) k,hp.bd (by omega) _,?_⟩;cases h:lt (p.getD k 0) (p.getD ((l+r) / 2) 0) with
   | true =>
    dsimp only;rw[if_pos rfl];refine Cm hp hk up f l ((l+r) / 2) (by omega) (by omega) (by omega) h4 λi x y=>?_
    by_cases z:i=(l+r) / 2
    ·rw[z];exact h
    ·exact O.lt_le h (up _ _ (by omega) y)
   | false =>
    dsimp only;rw[if_neg l_];refine Cm hp hk up f ((l+r) / 2+1) r (by omega) (by omega) (by omega) (λi x=>?_) h5;by_cases z:i=(l+r) / 2
    ·rw[z];exact h
    ·exact O.tr _ _ _ (up i ((l+r) / 2) (by omega) (by omega)) h
theorem Dw:∀(f:Nat) (p:Array Nat) (k:Nat),Pm n p->Up lt p k->1<=k->k+f=n->(kas_bin f p k).kasWp (askIn n lt) (λp' _=>Pm n p'/\Up lt p' n) s
 | 0,p,k,hp,up,h1,h2=>by
  rw[kas_bin];have:k=n:=by omega
  subst this;exact⟨hp,up⟩
 | f+1,p,k,hp,up,h1,h2=>by
  rw[kas_bin];refine xQ (Cm O two hp (by omega) up k 0 k (Sh _) (w_ _) (by omega) (λi h=>by omega) λi x y=>by omega) λl ⟨c1,c2,c3⟩=>?_
  refine Dw f _ (k+1) (trans (bubble_perm _ _ _) hp) (λi j dP hj=>?_) (by omega) (by omega);have hk:k < p.size:=by rw[hp.size];omega
  rw[Fg hk (by omega),Fg hk (by omega),show k - (k - l)=l by omega];by_cases j1:j=l
  ·rw[if_pos j1,if_neg (by omega),if_neg (by omega)];exact c2 i (by omega)
  ·rw[if_neg j1];by_cases j2:l < j/\j<=k
   ·rw[if_pos j2];by_cases i1:i=l
    ·rw[if_pos i1];exact O.as _ _ (c3 (j - 1) (by omega) (by omega))
    ·rw[if_neg i1];by_cases i2:l < i/\i<=k
     ·rw[if_pos i2];exact up _ _ (by omega) (by omega)
     ·rw[if_neg i2];exact up _ _ (by omega) (by omega)
   ·rw[if_neg j2,if_neg (by omega),if_neg (by omega)];exact up _ _ dP (by omega)
theorem KC:(kas_sort n).kasWp (askIn n lt) (λp _=>Pm n p/\Up lt p n) s:=by
 unfold kas_sort;refine xQ (HY O two (p:=(Sx n).toArray) (Array.Perm.refl _)) λr ⟨a1,a2,a3,a4⟩=>?_
 split
 ·refine Dw O two _ _ _ a3 ?_ (by omega) (by omega);rw[Nat.max_eq_left a1];exact a4
 ·have:r.1=n:=by omega
  rw[this] at a4;exact⟨a3,a4⟩
end
end DL
namespace DL
open PySem PySem.W PySem.Spec PyProof.Rows
section
variable{prog:x_}{w:I_}{E:b_->c_->Prop}{s:c_}
noncomputable def byP(vs:List b_)(p:Array Nat):List b_:=p.toList.map λi=>vs.getD i b_.none
theorem Mu(vs:List b_):byP vs (Sx vs.length).toArray=vs:=by
 unfold byP;refine List.ext_getElem (by simp) λi h1 h2=>?_
 simp[h2]
theorem Jx{p:Array Nat}(h:Pm vs.length p):(byP vs p).length=vs.length:=by
 unfold byP;rw[q_,Ss,h.size]
def KeptBut(a:i_)(h h':RV):Prop:=∀b o,b≠a->h.get? b=some o->h'.get? b=some o
theorem Ny{e:Nat}{κ:SortKind}{lt:Nat->Nat->Bool}{P:PySem.Fin->c_->Prop}(ho:s.heap.get? a=some (UQ "list" vs.toArray e))(jh:vs.length < 64)(O:Ord lt)(kind:∀h' Q,KeptBut a s.heap h'->2<=vs.length->Q κ { s with heap:=h' }->r_ (t_ prog w) A (keyKind' vs.toArray) Q E { s with heap:=h' })(XV:∀h' i j C,KeptBut a s.heap h'->i < vs.length->j < vs.length->C (lt i j) { s with heap:=h' }->r_ (t_ prog w) A (keyLt' κ (vs.getD i b_.none) (vs.getD j b_.none)) C (λ_ _=>False) { s with heap:=h' })(fin:∀p h' c,Pm vs.length p->Up lt p vs.length->KeptBut a s.heap h'->h'.get? a=some (UQ "list" (byP vs p).toArray c)->P (.done (.ret .none)) { s with heap:=h' }):
  r_ (t_ prog w) A (S1.«list.sort» ⟨[.ref a],[]⟩) P E s:=by
 have line:64<=A_:=by rw[Sy];decide
 obtain⟨g1,k6⟩:∃g1,g1=s.heap.update a (V1 λ_=>(#[]:Array b_)):=⟨_,rfl⟩;obtain⟨e1,o1⟩:∃e1,g1.get? a=some (UQ "list" #[] e1):=⟨_,by rw[k6];exact get?_update_seq ho _⟩;have k1:KeptBut a s.heap g1:=λb o ne x=>by rw[k6];exact(O_ _ _ (R5 ne)).trans x
 obtain⟨g2,k7⟩:∃g2,g2=(g1.push (UQ "tuple" vs.toArray 0)).push (UQ "list" #[] 0):=⟨_,rfl⟩;have o2:g2.get? a=some (UQ "list" #[] e1):=by rw[k7];exact f_ _ (f_ _ o1)
 have k2:KeptBut a s.heap g2:=λb o ne x=>by rw[k7];exact f_ _ (f_ _ (k1 b o ne x))
 have kc:∀k8,(2<=vs.length->k8=κ)->r_ (t_ prog w) A ((if vs.toArray.size < 2 then pure () else sortRuns').run (SortSt.mk' k8 (vs.toArray.zip vs.toArray) #[] 7 none))
   (λr s'=>s'={ s with heap:=g2 }/\∃p,Pm vs.length p/\Up lt p vs.length/\(arrOf r.2).map (·.2)=(byP vs p).toArray/\failedOf r.2=none) E { s with heap:=g2 }:=λk8 pF=>by
  rcases UC vs.length 2 with fk | cj
  ·rw[if_pos (by rw[p_];exact fk)];refine d_ ⟨rfl,(Sx vs.length).toArray,Array.Perm.refl _,λi j x y=>by omega,?_,rfl⟩;rw[Mu];show((vs.toArray.zip vs.toArray).map (·.2))=_;refine Array.ext (by simp) λi h1 h2=>by simp
  ·rw[if_neg (by rw[p_];omega),pF cj];refine kat_run (ks:=vs) (vs:=vs) (G:=λp s'=>(Pm vs.length p/\Up lt p vs.length)/\s'={ s with heap:=g2 }) (Q:=λst s'=>s'={ s with heap:=g2 }/\∃p,Pm vs.length p/\Up lt p vs.length/\(arrOf st).map (·.2)=(byP vs p).toArray/\failedOf st=none) rfl cj jh ?_ ?_
   ·rintro p st s' hz k9 aX ⟨⟨hp,up⟩,rfl⟩;exact⟨rfl,p,hp,up,kat_snds rfl k9,aX⟩
   ·exact zq (P:=λp=>Pm vs.length p/\Up lt p vs.length) (λi j C h1 h2 h3=>XV g2 i j C k2 h1 h2 h3) (λp hp=>⟨hp,rfl⟩) _ (KC O cj)
 rw[list_sort_plain];refine a_ (listItems_at ho rfl (a_ (listUpdate_at ho rfl ?_ (by rw[p_];omega) (Sh _))));rw[←k6];refine a_ (seqEpoch_at o1 rfl (a_ (wpAny_newTuple (a_ (wpAny_newList (Sd ?_) (Sh _))) (by show vs.length<=_;omega))));show r_ (t_ prog w) A _ P E { s with heap:=(g1.push (UQ "tuple" vs.toArray 0)).push (UQ "list" #[] 0) };rw[←k7];dsimp only
 rcases UC vs.length 2 with fk | cj
 all_goals
  first
   | (rw[if_pos (by rw[p_];exact fk)];refine a_ (d_ ?_);have step:=kc general' λh=>by omega)
   | (rw[if_neg (by rw[p_];omega)];refine a_ (kind g2 _ k2 cj ?_);have step:=kc κ λ_=>rfl)
  refine a_ (Sa step (λr s' h=>?_) λ_ _ x=>x);obtain⟨rfl,p,hp,up,k9,aX⟩:=h;rw[k9,aX];refine a_ (seqEpoch_at o2 rfl (a_ (listUpdate_at o2 rfl ?_ (Sh _) ?_)))
  ·dsimp only;rw[bne_self_eq_false,if_neg l_];exact d_ (fin p _ _ hp up (λb o ne x=>(O_ _ _ (R5 ne)).trans (k2 b o ne x)) (get?_update_seq o2 λ_=>(byP vs p).toArray))
  ·show(byP vs p).toArray.size<=_;rw[p_,Jx hp];omega
theorem Ce{l:i_}{κ:SortKind}{lt:Nat->Nat->Bool}{Q:b_->c_->Prop}(jh:vs.length < 64)(O:Ord lt)(col:∀Q':List b_->c_->Prop,(∀h' tk,(∀b o,s.heap.get? b=some o->h'.get? b=some o)->s.heap.objs.size<=h'.objs.size->Q' vs { s with heap:=h',toks:=tk })->r_ (t_ prog w) A.in1 (Ye (.ref l)) Q' E s)(kind:∀h' tk Q,(∀b o,s.heap.get? b=some o->h'.get? b=some o)->2<=vs.length->Q κ { s with heap:=h',toks:=tk }->r_ (t_ prog w) A.in1.in1 (keyKind' vs.toArray) Q (λ_ _=>False) { s with heap:=h',toks:=tk })(XV:∀h' tk i j C,(∀b o,s.heap.get? b=some o->h'.get? b=some o)->i < vs.length->j < vs.length->C (lt i j) { s with heap:=h',toks:=tk }->r_ (t_ prog w) A.in1.in1 (keyLt' κ (vs.getD i b_.none) (vs.getD j b_.none)) C (λ_ _=>False) { s with heap:=h',toks:=tk })(fin:∀p h' tk D c,Pm vs.length p->Up lt p vs.length->(∀b o,s.heap.get? b=some o->h'.get? b=some o)->s.heap.objs.size<=D->h'.get? D=some (UQ "list" (byP vs p).toArray c)->Q (.ref D) { s with heap:=h',toks:=tk }):
  r_ (t_ prog w) A (call (.builtin "sorted") [b_.ref l]) Q E s:=by
 have line:64<=A_:=by rw[Sy];decide
 refine Calls.call_function_entry kind_sorted plain_sorted entry_sorted (args_sorted1 _) ?_;refine a_ (m:=checkCount "sorted" 1 1 _) (d_ (a_ (col _ λg tk kg above=>a_ (wpAny_newList ?_ (by omega)))));have bp:(g.push (UQ "list" vs.toArray 0)).get? g.objs.size=some (UQ "list" vs.toArray 0):=z_ _ rfl
 have old:∀(h':RV),KeptBut g.objs.size (g.push (UQ "list" vs.toArray 0)) h'->∀b o,s.heap.get? b=some o->h'.get? b=some o:=λh' k b o x =>
  k b o (R0 (K_ (E_ x) above)) (f_ _ (kg b o x))
 refine a_ (Sd (Sl PyProof.Rows.slot_list_sort ⟨_,bp,rfl⟩ PyProof.Rows.entry_list_sort ?_ (args_list_sort _)));refine Ny (s:={ s with heap:=g.push (UQ "list" vs.toArray 0),toks:=tk }) (lt:=lt) (κ:=κ) bp jh O (λh' Q' k two q=>Sa (kind h' tk Q' (old h' k) two q) (λ_ _ x=>x) λ_ _ x=>x.elim) (λh' i j C k=>XV h' tk i j C (old h' k)) λp h' c hp up k here=>?_
 exact⟨_,rfl,d_ ⟨_,rfl,fin p h' tk _ c hp up (old h' k) above here⟩⟩
end
end DL
namespace DL
open PySem PySem.W PySem.Spec PyProof.Rows L2
noncomputable def rk:D->Nat
 | .non=>0
 | .bl _=>1
 | .int _=>2
 | .str _=>3
 | .tup _=>4
 | .lst _=>5
 | .exc _ _=>6
noncomputable def cI(a b:Int):Ordering:=if a < b then .lt else if b < a then .gt else .eq
mutual
noncomputable def cO:D->D->Ordering
 | .int a,.int b=>cI a b
 | .tup xs,.tup ys=>cOA xs ys
 | a,b=>cI (rk a) (rk b)
noncomputable def cOA:List D->List D->Ordering
 | [],[]=>.eq
 | [],_::_=>.lt
 | _::_,[]=>.gt
 | x::xs,y::ys=>(cO x y).then (cOA xs ys)
end
theorem vR(a b:Int):cI b a=(cI a b).swap:=by
 unfold cI;by_cases h1:a < b
 ·rw[if_pos h1,if_neg (by omega),if_pos h1];rfl
 ·by_cases h2:b < a
  ·rw[if_pos h2,if_neg h1,if_pos h2];rfl
  ·rw[if_neg h2,if_neg h1,if_neg h1,if_neg h2];rfl
theorem Hf{a b:D}(h:rk a≠rk b):cO a b=cI (rk a) (rk b):=by
 cases a<;>cases b<;>first | rfl | (exact absurd rfl h) | (simp[cO];done)
mutual
theorem A':∀a b:D,cO b a=(cO a b).swap
 | .int a,b=>by
  cases b<;>simp only[cO]<;>exact vR _ _
 | .tup xs,b=>by
  cases b<;>simp only[cO]<;>first | exact vR _ _ | exact De _ _
 | .non,b=>by cases b<;>simp only[cO]<;>exact vR _ _
 | .bl _,b=>by cases b<;>simp only[cO]<;>exact vR _ _
 | .str _,b=>by cases b<;>simp only[cO]<;>exact vR _ _
 | .lst _,b=>by cases b<;>simp only[cO]<;>exact vR _ _
 | .exc _ _,b=>by cases b<;>simp only[cO]<;>exact vR _ _
theorem De:∀xs ys:List D,cOA ys xs=(cOA xs ys).swap
 | [],[]=>by simp[cOA]
 | [],_::_=>by simp[cOA]
 | _::_,[]=>by simp[cOA]
 | x::xs,y::ys=>by
  rw[cOA,cOA,A' x y,De xs ys];cases cO x y<;>rfl
end
noncomputable def dl(a b:D):Bool:=cO a b == .lt
noncomputable def dlA(xs ys:List D):Bool:=cOA xs ys == .lt
theorem Bb(a b:Int):(cI a b == Ordering.lt)=decide (a < b):=by
 unfold cI;by_cases h1:a < b
 ·rw[if_pos h1];simp[h1]
 ·rw[if_neg h1];split<;>simp[h1]
theorem vh{a b:Int}:dl (.int a) (.int b)=decide (a < b):=by
 unfold dl;rw[cO,Bb]
theorem wR{xs:List D}:dl (.tup xs) (.tup ys)=dlA xs ys:=by
 unfold dl dlA;rw[cO]
theorem yE:dlA [] []=false:=by unfold dlA;simp[cOA]
theorem wC{y:D}:dlA [] (y::ys)=true:=by unfold dlA;simp[cOA]
theorem xF{y:D}:dlA (y::ys) []=false:=by unfold dlA;simp[cOA]
theorem wV{x y:D}{xs:List D}:dlA (x::xs) (y::ys)=(dl x y||(!dl y x&&dlA xs ys)):=by
 unfold dlA dl;rw[cOA,A' x y];cases cO x y<;>simp[Ordering.then,Ordering.swap]
theorem G9{a b:D}(h:rk a < rk b):dl a b=true:=by
 unfold dl;rw[Hf (R0 h),Bb];simp;omega
theorem Pg{a b:D}(h:rk b < rk a):dl a b=false:=by
 unfold dl;rw[Hf (Vk h),Bb];simp;omega
theorem wY{a b:D}(h:rk a=rk b)(h1:rk a≠2)(h2:rk a≠4):dl a b=false:=by
 unfold dl;cases a<;>cases b<;>first | (simp[rk] at h;done) | (exact absurd rfl h1) | (exact absurd rfl h2) | (simp[cO,cI,rk];done)
mutual
theorem xl:∀a b c:D,dl b a=false->dl c b=false->dl c a=false:=λa b c h1 h2=>by
 have r1:rk a<=rk b:=VQ λh=>by rw[G9 h] at h1;cases h1
 have r2:rk b<=rk c:=VQ λh=>by rw[G9 h] at h2;cases h2
 rcases UC (rk a) (rk c) with h | h
 ·exact Pg h
 ·have e1:rk b=rk a:=by omega
  have e2:rk c=rk a:=by omega
  match a,b,c with
  | .int a,.int b,.int c =>
   rw[vh] at h1 h2 ⊢;simp at h1 h2 ⊢;omega
  | .tup xs,.tup ys,.tup zs =>
   rw[wR] at h1 h2 ⊢;exact Cn xs ys zs h1 h2
  | .non,_,_=>exact wY e2 (by rw[e2];decide) (by rw[e2];decide)
  | .bl _,_,_=>exact wY e2 (by rw[e2];simp[rk]) (by rw[e2];simp[rk])
  | .str _,_,_=>exact wY e2 (by rw[e2];simp[rk]) (by rw[e2];simp[rk])
  | .lst _,_,_=>exact wY e2 (by rw[e2];simp[rk]) (by rw[e2];simp[rk])
  | .exc _ _,_,_=>exact wY e2 (by rw[e2];simp[rk]) (by rw[e2];simp[rk])
termination_by a b c=>sizeOf a+sizeOf b+sizeOf c
decreasing_by all_goals (simp_wf;omega)
theorem Cn:∀xs ys zs:List D,dlA ys xs=false->dlA zs ys=false->dlA zs xs=false
 | [],_,[],_,_=>yE
 | [],_,z::zs,_,_=>xF
 | x::xs,[],_,h1,_=>by rw[wC] at h1;cases h1
 | x::xs,y::ys,[],_,h2=>by rw[wC] at h2;cases h2
 | x::xs,y::ys,z::zs,h1,h2=>by
  simp only[wV,Bool.or_eq_false_iff,Wa,Bool.not_eq_false'] at h1 h2 ⊢;obtain⟨a1,a2⟩:=h1;obtain⟨b1,b2⟩:=h2;refine⟨xl x y z a1 b1,?_⟩;cases hx:dl x z with
  | true=>exact .inl rfl
  | false =>
   right
   rcases a2 with a2 | a2
   ·have:=xl y z x b1 hx;rw[a2] at this;cases this
   ·rcases b2 with b2 | b2
    ·have:=xl z x y hx a1;rw[b2] at this;cases this
    ·exact Cn xs ys zs a2 b2
termination_by xs ys zs=>sizeOf xs+sizeOf ys+sizeOf zs
decreasing_by all_goals (simp_wf;omega)
end
theorem Gp(a b:D)(h:dl a b=true):dl b a=false:=by
 unfold dl at h ⊢;rw[A' a b];cases e:cO a b<;>rw[e] at h<;>first | rfl | (cases h;done)
theorem Bo(ds:List D):Ord λi j=>dl (ds.getD i .non) (ds.getD j .non):=⟨λa b h=>Gp _ _ h,λa b c h1 h2=>xl _ _ _ h1 h2⟩
mutual
noncomputable def cmB:D->D->Bool
 | .int _,.int _=>true
 | .tup xs,.tup ys=>cmA xs ys
 | _,_=>false
noncomputable def cmA:List D->List D->Bool
 | x::xs,y::ys=>cmB x y&&cmA xs ys
 | _,_=>true
end
mutual
theorem wq:∀a b:D,cmB a b=true->deq a b=(!dl a b&&!dl b a)
 | .int a,.int b,_=>by
  rw[vh,vh];by_cases h:a=b
  ·simp[deq,h]
  ·rcases Int.lt_or_gt_of_ne h with h' | h'
   ·simp[deq,h,h']
   ·simp[deq,h,h']
 | .tup xs,.tup ys,h=>by
  rw[cmB] at h;rw[deq,wR,wR];exact Cq xs ys h
 | .non,_,h=>by simp[cmB] at h
 | .bl _,_,h=>by simp[cmB] at h
 | .str _,_,h=>by simp[cmB] at h
 | .lst _,_,h=>by simp[cmB] at h
 | .exc _ _,_,h=>by simp[cmB] at h
 | .int _,.exc _ _,h=>by simp[cmB] at h
 | .tup _,.exc _ _,h=>by simp[cmB] at h
 | .int _,.non,h=>by simp[cmB] at h
 | .int _,.bl _,h=>by simp[cmB] at h
 | .int _,.str _,h=>by simp[cmB] at h
 | .int _,.tup _,h=>by simp[cmB] at h
 | .int _,.lst _,h=>by simp[cmB] at h
 | .tup _,.non,h=>by simp[cmB] at h
 | .tup _,.bl _,h=>by simp[cmB] at h
 | .tup _,.str _,h=>by simp[cmB] at h
 | .tup _,.int _,h=>by simp[cmB] at h
 | .tup _,.lst _,h=>by simp[cmB] at h
theorem Cq:∀xs ys:List D,cmA xs ys=true->deqA xs ys=(!dlA xs ys&&!dlA ys xs)
 | [],[],_=>by simp[deqA,yE]
 | [],_::_,_=>by simp[deqA,wC,xF]
 | _::_,[],_=>by simp[deqA,wC,xF]
 | x::xs,y::ys,h=>by
  rw[cmA,J_] at h;rw[deqA,wq x y h.1,Cq xs ys h.2,wV,wV];cases h1:dl x y<;>cases h2:dl y x<;>simp
end
mutual
theorem xg:∀a b:D,cmB a b=true->deq a b=true->a=b
 | .int a,.int b,_,h=>by simp[deq] at h;rw[h]
 | .tup xs,.tup ys,c,h=>by
  rw[cmB] at c;rw[deq] at h;rw[Ey xs ys c h]
 | .non,_,h,_=>by simp[cmB] at h
 | .bl _,_,h,_=>by simp[cmB] at h
 | .str _,_,h,_=>by simp[cmB] at h
 | .lst _,_,h,_=>by simp[cmB] at h
 | .exc _ _,_,h,_=>by simp[cmB] at h
 | .int _,.exc _ _,h,_=>by simp[cmB] at h
 | .tup _,.exc _ _,h,_=>by simp[cmB] at h
 | .int _,.non,h,_=>by simp[cmB] at h
 | .int _,.bl _,h,_=>by simp[cmB] at h
 | .int _,.str _,h,_=>by simp[cmB] at h
 | .int _,.tup _,h,_=>by simp[cmB] at h
 | .int _,.lst _,h,_=>by simp[cmB] at h
 | .tup _,.non,h,_=>by simp[cmB] at h
 | .tup _,.bl _,h,_=>by simp[cmB] at h
 | .tup _,.str _,h,_=>by simp[cmB] at h
 | .tup _,.int _,h,_=>by simp[cmB] at h
 | .tup _,.lst _,h,_=>by simp[cmB] at h
theorem Ey:∀xs ys:List D,cmA xs ys=true->deqA xs ys=true->xs=ys
 | [],[],_,_=>rfl
 | [],_::_,_,h=>by simp[deqA] at h
 | _::_,[],_,h=>by simp[deqA] at h
 | x::xs,y::ys,c,h=>by
  rw[cmA,J_] at c;rw[deqA,J_] at h;rw[xg x y c.1 h.1,Ey xs ys c.2 h.2]
end
open PySem.SeqAt in
theorem CM(e lt:Nat->Bool)(d:Bool)(f:Nat->Nat):∀l:List Nat,ltFrom e lt d (l.map f)=ltFrom (λi=>e (f i)) (λi=>lt (f i)) d l
 | []=>rfl
 | i::l=>by rw[G_,ltFrom,ltFrom,CM e lt d f l]
open PySem.SeqAt in
theorem Gs:∀xs ys:List D,cmA xs ys=true->ltFrom (λj=>deq (xs.getD j .non) (ys.getD j .non)) (λj=>dl (xs.getD j .non) (ys.getD j .non)) (decide (xs.length < ys.length)) (Sx (min xs.length ys.length))=dlA xs ys
 | [],[],_=>by simp[ltFrom,yE]
 | [],_::_,_=>by simp[ltFrom,wC]
 | _::_,[],_=>by simp[ltFrom,xF]
 | x::xs,y::ys,c=>by
  rw[cmA,J_] at c;have ih:=Gs xs ys c.2;rw[R8,R8,Nat.succ_min_succ,TB,ltFrom,CM,wV]
  have e:ltFrom (λi=>deq ((x::xs).getD i.succ .non) ((y::ys).getD i.succ .non)) (λi=>dl ((x::xs).getD i.succ .non) ((y::ys).getD i.succ .non)) (decide (xs.length+1 < ys.length+1)) (Sx (min xs.length ys.length))=dlA xs ys:=by
   rw[←ih]
   congr 1
   simp
  rw[e];show(if deq x y=true then dlA xs ys else dl x y)=_;rw[wq x y c.1];cases h1:dl x y<;>cases h2:dl y x<;>simp
theorem EK:∀(xs ys:List D),cmA xs ys=true->∀j,j < xs.length->j < ys.length->cmB (xs.getD j .non) (ys.getD j .non)=true
 | [],_,_,j,h,_=>by simp at h
 | _::_,[],_,j,_,h=>by simp at h
 | x::xs,y::ys,c,j,h1,h2=>by
  rw[cmA,J_] at c;cases j with
  | zero=>exact c.1
  | succ j=>exact EK xs ys c.2 j (by simpa using h1) (by simpa using h2)
section
variable{H:Hp}{s:c_}
open PySem.SeqAt in
theorem La(I:Inv X aa Z H s):∀(n:Nat) (A:SH),A.units+n < S8->n < 900->∀(a b:D) (x y:V) (u v:b_),(dep a<=n/\dep b<=n)->cmB a b=true->Is X.K H a x->Is X.K H b y->RelV x u->RelV y v->RcLtAt A s u v (dl a b):=by
 intro n
 induction n with
 | zero =>
  intro A hu hn a b x y u v hd c ha hb ru rv;cases a<;>cases b<;>simp[cmB] at c
  ·rename_i i j;rw[sQ ha] at ru;rw[sQ hb] at rv;obtain⟨t1,rfl⟩:=ru;obtain⟨t2,rfl⟩:=rv;rw[vh];exact RcLtAt.int_int _ _ _ _
  ·rw[dep] at hd;omega
 | succ n ih =>
  intro A hu hn a b x y u v hd c ha hb ru rv;cases a<;>cases b<;>simp[cmB] at c
  ·rename_i i j;rw[sQ ha] at ru;rw[sQ hb] at rv;obtain⟨t1,rfl⟩:=ru;obtain⟨t2,rfl⟩:=rv;rw[vh];exact RcLtAt.int_int _ _ _ _
  ·rename_i ds es;have fh:A.in1.units+n < S8:=by show A.units+1+n < S8;omega
   obtain⟨p,xs,rfl,h1,h2⟩:=sY ha;obtain⟨q,ys,rfl,h3,h4⟩:=sY hb;cases ru;cases rv;obtain⟨ac,r1,t1,_⟩:=I.tuple h1;obtain⟨bF,r2,t2,_⟩:=I.tuple h3;have l1:ac.toArray.size=ds.length:=by rw[p_,←r1.length,h2.length]
   have l2:bF.toArray.size=es.length:=by rw[p_,←r2.length,h4.length]
   have two:∀j (g1:j < ac.toArray.size) (g2:j < bF.toArray.size),XA A.in1 s ac.toArray[j] bF.toArray[j] (deq (ds.getD j .non) (es.getD j .non))/\(deq (ds.getD j .non) (es.getD j .non)=false->RcLtAt A.in1 s ac.toArray[j] bF.toArray[j] (dl (ds.getD j .non) (es.getD j .non))):=λj g1 g2=>by
    obtain⟨v1,q1,q2⟩:=h2.getU r1 g1;obtain⟨v2,q3,q4⟩:=h4.getU r2 g2
    have m1:ds.getD j .non∈ds:=by
     rw[h_,g_ (by omega)];exact Sf _
    have m2:es.getD j .non∈es:=by
     rw[h_,g_ (by omega)];exact Sf _
    have k1:=t7 m1;have k2:=t7 m2;rw[dep,dep] at hd;exact⟨(wv I n A.in1 fh (by omega) _ _ _ _ _ _ (by omega) q2 q4 q1 q3).2.1,λ_=>ih A.in1 fh (by omega) _ _ _ _ _ _ (by omega) (EK ds es c j (by omega) (by omega)) q2 q4 q1 q3⟩
   have R1:=RcLtAt.tuples (A:=A) t1 t2 (by omega) two;rw[l1,l2,Gs ds es c] at R1;rw[wR];exact R1
end
end DL
namespace DL
open PySem PySem.W PySem.Spec PyProof.Rows L2
noncomputable def leD(a b:D):Bool:=!dl b a
noncomputable def sortD(ds:List D):List D:=ds.mergeSort leD
theorem Ih(a b c:D)(h1:leD a b=true)(h2:leD b c=true):leD a c=true:=by
 unfold leD at *;simp only[UD] at *;exact xl a b c h1 h2
theorem NO(a b:D):(leD a b||leD b a)=true:=by
 unfold leD;cases h:dl b a with
 | false=>rfl
 | true=>rw[Gp b a h];rfl
theorem wD(ds:List D):(sortD ds).Perm ds:=Vo ds leD
theorem wJ(ds:List D):(sortD ds).Pairwise λa b=>leD a b=true:=List.pairwise_mergeSort Ih NO ds
theorem zf:∀(l m:List D),l.Perm m->(l.Pairwise λa b=>leD a b=true)->(m.Pairwise λa b=>leD a b=true)->(∀a∈l,∀b∈l,leD a b=true->leD b a=true->a=b)->l=m
 | [],m,p,_,_,_=>by rw[List.nil_perm.mp p]
 | a::l,[],p,_,_,_=>by have:=p.length_eq;simp at this
 | a::l,b::m,p,h1,h2,an=>by
  have e:a=b:=by
   have ia:a∈b::m:=p.mem_iff.mp m_;have ib:b∈a::l:=p.mem_iff.mpr m_
   rcases B_.mp ia with h | h
   ·exact h
   ·rcases B_.mp ib with h' | h'
    ·exact h'.symm
    ·exact an a m_ b ib ((US.mp h1).1 b h') ((US.mp h2).1 a h)
  subst e;rw[zf l m ((List.perm_cons a).mp p) (US.mp h1).2 (US.mp h2).2 λx hx y hy=>an x (j_ _ hx) y (j_ _ hy)]
noncomputable def permD(p:Array Nat)(ds:List D):List D:=p.toList.map λi=>ds.getD i .non
noncomputable def permV(p:Array Nat)(zs:List V):List V:=p.toList.map λi=>zs.getD i .non
noncomputable def cmAll(ds:List D):Bool:=ds.all λa=>ds.all λb=>cmB a b
theorem LR{p:Array Nat}(hp:Pm ds.length p)(up:Up (λi j=>dl (ds.getD i .non) (ds.getD j .non)) p ds.length)(cm:cmAll ds=true):permD p ds=sortD ds:=by
 have pm:(permD p ds).Perm ds:=by
  have h1:p.toList.Perm (Sx ds.length):=by
   have:=TK.mp hp;simpa using this
  have h2:=h1.map λi=>ds.getD i .non
  have h3:((Sx ds.length).map λi=>ds.getD i .non)=ds:=by
   refine List.ext_getElem (by simp) λi h1 h2=>?_
   simp[h2]
  rw[h3] at h2;exact h2
 have ji:∀a∈permD p ds,∀b∈permD p ds,cmB a b=true:=λa ha b hb=>by
  have:=n_.mp cm a (pm.mem_iff.mp ha);exact n_.mp this b (pm.mem_iff.mp hb)
 refine zf _ _ (pm.trans (wD ds).symm) ?_ (wJ ds) λa ha b hb h1 h2=>?_
 ·rw[Vt];intro i j hi hj dP;unfold permD at hi hj ⊢;rw[q_,Ss,hp.size] at hi hj;have:=up i j dP hj;simp only[Vv,Wt];unfold gt at this;rw[Yk,dif_pos (by rw[hp.size];exact hj),Yk,dif_pos (by rw[hp.size];exact hi)] at this;unfold leD;rw[UD];exact this
 ·have c:=ji a ha b hb;refine xg a b c ?_;rw[wq a b c];unfold leD at h1 h2;rw[h1,h2];rfl
section
variable{H:Hp}{s:c_}
noncomputable def fstI:D->Bool
 | .tup (.int _::_)=>true
 | _=>false
noncomputable def fstT:D->Bool
 | .tup (.tup _::_)=>true
 | _=>false
noncomputable def isInt:D->Bool
 | .int _=>true
 | _=>false
theorem Ds(I:Inv X aa Z H s){prog:x_}{w:I_}{n:Nat}{b fin:Bool}{Q:Bool->c_->Prop}(hu:A.units+n < S8)(hn:n < 900):∀(ds es:List D) (xs ys:List V) (us vs:List b_) (i:Nat),IsA X.K H ds xs->IsA X.K H es ys->Vals xs us->Vals ys vs →
  (depA ds<=n/\depA es<=n)->cmA ds es=true->fin=decide (ds.length < es.length)->(b=true->i=0->∀d e r r',ds=d::r->es=e::r'->isInt d=true/\isInt e=true)->Q (dlA ds es) s->KatLex prog w A b fin Q (us.zip vs) i s
 | [],es,xs,ys,us,vs,i,h1,h2,h3,h4,hd,c,hf,fl,q=>by
  have:=h1.nil_inv;subst this;cases h3;rw[List.zip_nil_left];refine kat_nil ?_;rw[hf];cases es with
  | nil=>rw[yE] at q;exact q
  | cons e es=>rw[wC] at q;simpa using q
 | d::ds,[],xs,ys,us,vs,i,h1,h2,h3,h4,hd,c,hf,fl,q=>by
  have:=h2.nil_inv;subst this;cases h4;rw[List.zip_nil_right];refine kat_nil ?_;rw[hf];rw[xF] at q;simpa using q
 | d::ds,e::es,xs,ys,us,vs,i,h1,h2,h3,h4,hd,c,hf,fl,q=>by
  obtain⟨x,xr,rfl,a1,a2⟩:=h1.cons_inv;obtain⟨y,yr,rfl,b1,b2⟩:=h2.cons_inv;cases h3 with
  | cons r1 r2 =>
   cases h4 with
   | cons s1 s2 =>
    rename_i u pG v lc;rw[depA,depA] at hd;rw[cmA,J_] at c;rw[wV] at q;have eq:=(wv I n A hu hn d e x y u v (by omega) a1 b1 r1 s1).2.1;have lt:=La I n A hu hn d e x y u v (by omega) c.1 a1 b1 r1 s1;have ed:=wq d e c.1;rw[Tv];refine kat_cons (eq prog w _ _ (kat_go (λh=>kat_yes ?_) λh=>kat_no ?_))
    ·refine Ds I hu hn ds es xr yr pG lc (i+1) a2 b2 r2 s2 (by omega) c.2 (by rw[hf];simp) (λ_ z=>by omega) ?_;rw[h] at ed;have ed:=ed.symm;simp only[J_,UD] at ed;rw[ed.1,ed.2] at q;simpa using q
    ·have q':Q (dl d e) s:=by
      rw[h] at ed;cases h1:dl d e with
      | true=>rw[h1] at q;simpa using q
      | false =>
       rw[h1] at ed q;cases h2:dl e d with
       | true=>rw[h2] at q;simpa using q
       | false=>rw[h2] at ed;cases ed
     by_cases z:b=true/\i=0
     ·obtain⟨zb,zi⟩:=z;obtain⟨f1,f2⟩:=fl zb zi d e ds es rfl rfl;subst zb;subst zi;cases d<;>simp[isInt] at f1
      cases e<;>simp[isInt] at f2
      rw[sQ a1] at r1;rw[sQ b1] at s1;obtain⟨t1,rfl⟩:=r1;obtain⟨t2,rfl⟩:=s1;show r_ _ _ (oneLt' true _ _) _ _ _;rw[←keyLt'_oneType];rw[vh] at q';exact kat_lt_int q'
     ·have:(b&&i == 0)=false:=by
       cases b
       ·rfl
       ·simp at z ⊢;exact z
      rw[this];exact kat_one _ _ (lt prog w _ _ q')
theorem at_k(h:IsA X.K H ds zs)(r:Vals zs vs)(hk:k < vs.length):∃x,Is X.K H (ds.getD k .non) x/\RelV x (vs.getD k .none)/\ds.getD k .non∈ds/\zs[k]?=some x:=by
 have l1:=h.length;have l2:=r.length;have lg:k < ds.length:=by omega
 obtain⟨x,e1,e2⟩:=h.get (g_ lg);obtain⟨u,e3,e4⟩:=r.get e1;refine⟨x,?_,?_,?_,e1⟩
 ·rw[h_,g_ lg];exact e2
 ·rw[h_,e3];exact e4
 ·rw[h_,g_ lg];exact Sf _
theorem BH(I:Inv X aa Z H s)(prog:x_)(w:I_)(P:D->Bool)(T:b_)(hP:∀d,P d=true->∃f r,d=.tup (f::r)/\∀x u,Is X.K H f x->RelV x u->Vw (t_ prog w) s.heap (Xo u) T):
  ∀(ds:List D) (zs:List V) (vs:List b_),IsA X.K H ds zs->Vals zs vs->ds.all P=true->∃fs,KatTups s.heap vs fs/\fs.length=vs.length/\∀v∈fs,Vw (t_ prog w) s.heap (Xo v) T
 | [],zs,vs,h,r,_=>by
  have:=h.nil_inv;subst this;cases r;exact⟨[],KatTups.nil,rfl,λv hv=>nomatch hv⟩
 | d::ds,zs,vs,h,r,ok=>by
  obtain⟨x,zr,rfl,h1,h2⟩:=h.cons_inv;rw[S0,J_] at ok;cases r with
  | cons r1 r2 =>
   obtain⟨fs,k1,k2,k3⟩:=BH I prog w P T hP ds zr _ h2 r2 ok.2;obtain⟨f,ao,rfl,look⟩:=hP d ok.1;obtain⟨a,ys,rfl,g1,g2⟩:=sY h1;cases r1;obtain⟨ac,q1,q2,_⟩:=I.tuple g1;obtain⟨y,yr,rfl,g3,g4⟩:=g2.cons_inv;cases q1 with
   | cons q3 q4 =>
    obtain⟨o,e1,e2,n,e3⟩:=q2;refine⟨_::fs,KatTups.cons e1 e2 e3 rfl k1,by simp[k2],λv hv=>?_⟩
    rcases B_.mp hv with rfl | hv
    ·exact look y _ g3 q3
    ·exact k3 v hv
def SortOk(ds:List D):Prop:=ds.length < 64/\cmAll ds=true/\depA ds<=50/\(ds.all isInt=true\/ds.all fstI=true\/ds.all fstT=true)
theorem FI(hu:X.A.units+100 < S8){l:i_}{Q:VK}(I:Inv X aa Z H s)(ha:IsA X.K H ds zs)(rv:Vals zs ac)(ok:SortOk ds)(col:∀Q':List b_->c_->Prop,(∀h' tk,(∀b o,s.heap.get? b=some o->h'.get? b=some o)->s.heap.objs.size<=h'.objs.size->Q' ac { s with heap:=h',toks:=tk })->r_ (t_ X.prog X.w) X.A.in1 (Ye (.ref l)) Q' X.xe s)(k:∀l q,Pm ds.length q->permD q ds=sortD ds->H l=none->Q (.ref l) (upd H l (.lst (permV q zs)))):r_ (t_ X.prog X.w) X.A (call (.builtin "sorted") [.ref l]) (EP X aa Z Q) X.xe s:=by
 obtain⟨jh,cm,dp,kd⟩:=ok;have l1:=ha.length;have l2:=rv.length;have n1:ac.length=ds.length:=by omega
 have ny:∀i j,i < ac.length->j < ac.length->cmB (ds.getD i .non) (ds.getD j .non)=true:=λi j hi hj=>by
  obtain⟨_,_,_,mi,_⟩:=at_k ha rv hi;obtain⟨_,_,_,mj,_⟩:=at_k ha rv hj;exact n_.mp (n_.mp cm _ mi) _ mj
 have out:∀q h' tk D c,Pm ac.length q->Up (λi j=>dl (ds.getD i .non) (ds.getD j .non)) q ac.length->(∀b o,s.heap.get? b=some o->h'.get? b=some o)->s.heap.objs.size<=D->h'.get? D=some (UQ "list" (byP ac q).toArray c)->EP X aa Z Q (.ref D) { s with heap:=h',toks:=tk }:=λq h' tk D c hp up keep above here=>by
  rw[n1] at hp up
  have hv:Vals (permV q zs) (byP ac q):=by
   refine B8 (by simp[permV,byP]) λi x u e1 e2=>?_
   obtain⟨j,f1,rfl⟩:=getMap e1;obtain⟨j',f2,rfl⟩:=getMap e2;rw[f1] at f2;cases f2
   have hj:j < ds.length:=by
    have h1:j∈q.toList:=RZ f1;have h2:=(TK.mp hp).mem_iff.mp h1;simpa using h2
   obtain⟨x,_,e4,_,e5⟩:=at_k ha rv (k:=j) (by omega);rw[h_,e5];exact e4
  refine⟨.ref D,_,I.laid (t':=tk) keep above (o:=.lst (permV q zs)) ⟨?_,byP ac q,c,hv,here⟩,rfl,k D q hp (LR hp up cm) (I.hok.fresh above)⟩;show(permV q zs).length<=A_;rw[permV,q_,Ss,hp.size,Sy];omega
 have hW:∀(b:Bool) (P:D->Bool),(∀d,P d=true->∃f r,d=.tup (f::r)/\(b=true->isInt f=true))->ds.all P=true->∀h' tk i j C,(∀b o,s.heap.get? b=some o->h'.get? b=some o)->i < ac.length->j < ac.length->C (dl (ds.getD i .non) (ds.getD j .non)) { s with heap:=h',toks:=tk } →
   r_ (t_ X.prog X.w) X.A.in1.in1 (keyLt' (tuples' b) (ac.getD i b_.none) (ac.getD j b_.none)) C (λ_ _=>False) { s with heap:=h',toks:=tk }:=λb P hP all h' tk i j C keep hi hj hc=>by
  have I':Inv X aa Z H { s with heap:=h',toks:=tk }:=I.kept (t':=tk) keep;obtain⟨x,a1,a2,a3,_⟩:=at_k ha rv hi;obtain⟨y,b1,b2,b3,_⟩:=at_k ha rv hj;have cc:=ny i j hi hj;have dq:=t7 a3;have nz:=t7 b3;obtain⟨f1,r1,e1,g1⟩:=hP _ (n_.mp all _ a3);obtain⟨f2,r2,e2,g2⟩:=hP _ (n_.mp all _ b3);rw[e1] at a1 cc hc dq;rw[e2] at b1 cc hc nz;obtain⟨pa,xs,rfl,x1,x2⟩:=sY a1;obtain⟨pb,ys,rfl,y1,y2⟩:=sY b1;generalize ac.getD i b_.none=ui at a2;generalize ac.getD j b_.none=uj at b2;cases a2;cases b2;obtain⟨us,q1,q2,_⟩:=I'.tuple x1;obtain⟨vs,q3,q4,_⟩:=I'.tuple y1;obtain⟨oa,m1,m2,na,m3⟩:=q2;obtain⟨ob,m4,m5,nb,m6⟩:=q4;rw[wR] at hc;rw[cmB] at cc;rw[dep] at dq nz;refine kat_lt m1 m3 m4 m6 (Ds I' (n:=50) (by show X.A.units+1+1+50 < S8;omega) (by decide) _ _ xs ys _ _ 0 x2 y2 q1 q3 (by omega) cc ?_ (λzb _ d e rr rT z1 z2=>?_) hc)
  ·have:=x2.length;have:=y2.length;have:=q1.length;have:=q3.length;simp only[p_]
   congr 1
   apply propext
   constructor<;>intro _<;>omega
  ·cases z1;cases z2;exact⟨g1 zb,g2 zb⟩
 rcases kd with kd | kd | kd
 ·-- bT numbers
  have lh:∀k,k < ac.length->∃i t,ac.getD k b_.none=.int i t/\ds.getD k .non=.int i:=λk hk=>by
   obtain⟨x,a1,a2,a3,_⟩:=at_k ha rv hk;have:=n_.mp kd _ a3;cases e:ds.getD k .non<;>rw[e] at this a1<;>simp[isInt] at this
   rw[sQ a1] at a2;obtain⟨t,a2⟩:=a2;exact⟨_,t,a2,rfl⟩
  refine Ce (κ:=oneType') (lt:=λi j=>dl (ds.getD i .non) (ds.getD j .non)) (by omega) (Bo ds) col (λh' tk Q' keep two q=>?_) (λh' tk i j C keep hi hj hc=>?_) out
  ·refine kas_kind (T:=.type "int") two (λv hv=>?_) (by decide) (by decide) q;obtain⟨k,hk,rfl⟩:=TL hv;obtain⟨i,t,e,_⟩:=lh k hk;rw[h_,g_ hk] at e
   change ac[k]=_ at e
   rw[e];exact Vw.now
  ·obtain⟨a,t1,e1,f1⟩:=lh i hi;obtain⟨b,t2,e2,f2⟩:=lh j hj;rw[f1,f2,vh] at hc;rw[e1,e2];exact kat_lt_int hc
 ·-- tuples that begin with a bT number
  refine Ce (κ:=tuples' true) (lt:=λi j=>dl (ds.getD i .non) (ds.getD j .non)) (by omega) (Bo ds) col (λh' tk Q' keep two q=>?_) (λh' tk i j C keep hi hj hc=>hW true fstI (λd hd=>?_) kd h' tk i j C keep hi hj hc) out
  ·have I':Inv X aa Z H { s with heap:=h',toks:=tk }:=I.kept (t':=tk) keep
   obtain⟨fs,k1,k2,k3⟩:=BH I' X.prog X.w fstI (.type "int") (λd hd=>by
    unfold fstI at hd;split at hd
    ·refine⟨_,_,rfl,λx u hx hr=>?_⟩;rw[sQ hx] at hr;obtain⟨t,rfl⟩:=hr;exact Vw.now
    ·cases hd) ds zs ac ha rv kd
   exact kat_kind k1 (by omega) k3 (by decide) q
  ·unfold fstI at hd;split at hd
   ·exact⟨_,_,rfl,λ_=>rfl⟩
   ·cases hd
 ·-- tuples that begin with a tuple
  refine Ce (κ:=tuples' false) (lt:=λi j=>dl (ds.getD i .non) (ds.getD j .non)) (by omega) (Bo ds) col (λh' tk Q' keep two q=>?_) (λh' tk i j C keep hi hj hc=>hW false fstT (λd hd=>?_) kd h' tk i j C keep hi hj hc) out
  ·have I':Inv X aa Z H { s with heap:=h',toks:=tk }:=I.kept (t':=tk) keep
   obtain⟨fs,k1,k2,k3⟩:=BH I' X.prog X.w fstT (.type "tuple") (λd hd=>by
    unfold fstT at hd;split at hd
    ·refine⟨_,_,rfl,λx u hx hr=>?_⟩;obtain⟨a,ys,rfl,g1,g2⟩:=sY hx;cases hr;obtain⟨bF,q1,q2,_⟩:=I'.tuple g1;obtain⟨o,e1,e2,n,e3⟩:=q2;have look:Vw (t_ X.prog X.w) h' (Xo (.ref a)) o.cls:=(Vw.ld e1).andThen .now;rw[e2] at look;exact look
    ·cases hd) ds zs ac ha rv kd
   exact kat_kind k1 (by omega) k3 (by decide) q
  ·unfold fstT at hd;split at hd
   ·exact⟨_,_,rfl,λh=>by cases h⟩
   ·cases hd
theorem O6(hu:X.A.units+100 < S8):CallR X (.builtin "sorted") (λxs H Q=>∃(p:i_) (zs:List V) (ds:List D),xs=[.ref p]/\SqL X.K H p zs/\IsA X.K H ds zs/\SortOk ds/\∀l q,Pm ds.length q->permD q ds=sortD ds->H l=none->Q (.ref l) (upd H l (.lst (permV q zs)))):=by
 intro aa s Z H xs us Q I r h;obtain⟨p,zs,ds,rfl,hq,ha,ok,k⟩:=h;obtain⟨u,rfl,ru⟩:=vals1 r;cases ru;obtain⟨ac,rv,t,hz⟩:=I.list hq;have l1:=ha.length;have l2:=rv.length;have line:64<=A_:=by rw[Sy];decide
 refine FI hu I ha rv ok (λQ' q=>collect_list t.isList (q _ s.toks (λb o x=>?_) ?_) (by have:=ok.1;omega)) k
 ·exact(O_ _ _ (R5 (R0 (E_ x)))).trans (f_ _ x)
 ·rw[RV.size_update,size_push'];exact XE _
end
section
variable{B:BB}{kr:Nat}
noncomputable def sortF(ds:List D):Option (List D):=match ds with
 | [.lst xs]=>if xs.length < 64/\cmAll xs=true/\depA xs<=50/\(xs.all isInt=true\/xs.all fstI=true\/xs.all fstT=true) then some (sortD xs) else none
 | _=>none
theorem IsA.perm{K:PySem.W.Frag}{q:Array Nat}(h:IsA K I ds zs)(hp:Pm ds.length q):IsA K I (permD q ds) (permV q zs):=by
 have low:∀j∈q.toList,j < ds.length:=λj hj=>by
  have:=(TK.mp hp).mem_iff.mp hj;simpa using this
 unfold permD permV;clear hp;generalize q.toList=js at low
 induction js with
 | nil=>exact IsA.nil
 | cons j js ih =>
  rw[G_,G_];refine IsA.cons ?_ (ih λi hi=>low i (j_ _ hi));have hj:=low j m_;obtain⟨x,e1,e2⟩:=h.get (g_ hj);rw[h_,h_,e1,g_ hj];exact e2
theorem zc{p:Pos}(hr:Room kr X.A)(hg:Gl X "sorted")(hm:X.mg "sorted"=none)(ha:AD X B [e] t)(he:e_ [e] X.env=(false,eval e X.env)::e_ [] X.env:=by rfl)(aC:(R4 pos (e_ [] X.env)).any (·.1)=false:=by rfl):
  EO X B (.Call (.Name "sorted" p) [e] [] pos) (fn1 sortF t):=ML (O6 (hu100 hr)) (λds d e B G I H Z Γ xs Q r h k=>by
 unfold sortF at e;split at e
 ·obtain⟨ok,rfl⟩:=tG e;obtain⟨x,rfl,hx⟩:=h.one;obtain⟨q,zs,rfl,h3,h4⟩:=sU hx;refine⟨q,zs,_,rfl,(Same.rdK r.iH h3).sq,h4.mono r.iH,ok,λl q' hp es hl=>?_⟩;refine k.new r hl ?_;rw[←es];exact h4.perm hp
 ·cases e) hg hm boot_sorted ha (by decide) (by decide) he aC
end
end DL
namespace DL
open PySem PySem.SetTable
def Ris(xs:Array Nat):Prop:=∀i j (hi:i < xs.size) (hj:j < xs.size),i < j->xs[i] < xs[j]
theorem Am{xs:Array Nat}(R:Ris xs)(j:Nat):∀(f lo hi:Nat),hi<=xs.size->lo<=hi->hi - lo<=f->(∀i (h:i < xs.size),i < lo->xs[i] < j)->(∀i (h:i < xs.size),hi<=i->j<=xs[i]) →
  (UK.go xs j f lo hi<=xs.size/\(∀i (h:i < xs.size),i < UK.go xs j f lo hi->xs[i] < j)/\∀i (h:i < xs.size),UK.go xs j f lo hi<=i->j<=xs[i])
 | 0,lo,hi,h1,h2,h3,h4,h5=>by
  rw[UK.go];exact⟨by omega,h4,λi h x=>h5 i h (by omega)⟩
 | f+1,lo,hi,h1,h2,h3,h4,h5=>by
  rw[UK.go];split
  ·have hm:(lo+hi) / 2 < xs.size:=by omega
   have e:xs.getD ((lo+hi) / 2) j=xs[(lo+hi) / 2]:=by rw[Yk,dif_pos hm];rfl
   dsimp only;rw[e];split
   ·rename_i lt;refine Am R j f ((lo+hi) / 2+1) hi h1 (by omega) (by omega) (λi h x=>?_) h5;by_cases z:i=(lo+hi) / 2
    ·subst z;exact lt
    ·exact Nat.lt_trans (R i _ h hm (by omega)) lt
   ·rename_i nA;refine Am R j f lo ((lo+hi) / 2) (by omega) (by omega) (by omega) h4 λi h x=>?_
    by_cases z:i=(lo+hi) / 2
    ·subst z;omega
    ·have:=R _ i hm h (by omega);omega
  ·exact⟨by omega,h4,λi h x=>h5 i h (by omega)⟩
theorem yz{xs:Array Nat}(R:Ris xs)(j:Nat):UK xs j<=xs.size/\(∀i (h:i < xs.size),i < UK xs j->xs[i] < j)/\∀i (h:i < xs.size),UK xs j<=i->j<=xs[i]:=
 Am R j xs.size 0 xs.size (w_ _) (Sh _) (w_ _) (λi h x=>by omega) λi h x=>by omega
theorem Oy{xs:Array Nat}(R:Ris xs)(h:i < xs.size):UK xs xs[i]=i:=by
 obtain⟨b1,b2,b3⟩:=yz R xs[i]
 rcases UT (UK xs xs[i]) i with l | l | l
 ·have:=b3 (UK xs xs[i]) (by omega) (w_ _);have:=R _ i (by omega) h l;omega
 ·exact l
 ·have:=b2 i h l;omega
section
variable {t:Sz}
theorem DN(R:Ris t.place)(h:i < t.place.size):t.slot t.place[i]=.live i:=by
 unfold slot;dsimp only;rw[Oy R h,k_ h];simp
theorem JW(R:Ris t.place)(hd:t.dummies=#[])(h:j∉t.place):t.slot j=.empty:=by
 unfold slot;dsimp only
 have e:¬(t.place[UK t.place j]? == some j)=true:=by
  intro z;have z:t.place[UK t.place j]?=some j:=by simpa using z
  exact h (UL z)
 rw[if_neg e];unfold has;rw[hd];simp
noncomputable def hd(m i p:Nat):Probe:=⟨i,Tx m i - i,i,p,none⟩
noncomputable def adv(m:Nat)(p:Probe):Probe:=match p with
 | ⟨j,k+1,i,q,d⟩=>⟨j+1,k,i,q,d⟩
 | ⟨_,0,i,q,d⟩=>⟨(XB m i q).1,Tx m (XB m i q).1 - (XB m i q).1,(XB m i q).1,(XB m i q).2,d⟩
noncomputable def pth(m:Nat)(h:Int):Nat->Probe
 | 0=>hd m (WH h % (m+1)) (WH h)
 | k+1=>adv m (pth m h k)
theorem Hl(h:Int)(k:Nat):t.advance (pth t.mask h k)=pth t.mask h (k+1):=by
 rw[pth]
 rcases pth t.mask h k with⟨j,more,i,q,d⟩
 cases more<;>rfl
theorem G8(m:Nat)(h:Int):∀k,(pth m h k).dummy=none
 | 0=>rfl
 | k+1=>by
  have ih:=G8 m h k;rw[pth]
  revert ih
  rcases pth m h k with⟨j,more,i,q,d⟩
  intro ih;cases more<;>exact ih
noncomputable def sl(m:Nat)(h:Int)(k:Nat):Nat:=(pth m h k).j
theorem Ax{m:Nat}{h:Int}{c i p:Nat}(e:pth m h c=hd m i p):∀d,d<=Tx m i - i->pth m h (c+d)=⟨i+d,Tx m i - i - d,i,p,none⟩
 | 0,_=>e
 | d+1,cx=>by
  have ih:=Ax e d (by omega);rw[←Nat.add_assoc,pth,ih];obtain⟨k,hk⟩:∃k,Tx m i - i - d=k+1:=⟨Tx m i - i - d - 1,by omega⟩;rw[hk,show Tx m i - i - (d+1)=k by omega];rfl
theorem Da{h:Int}{c p:Nat}(e:pth m h c=hd m i p):pth m h (c+(Tx m i - i)+1)=hd m (XB m i p).1 (XB m i p).2:=by
 have:=Ax e (Tx m i - i) (w_ _);rw[pth,this,Nat.sub_self];rfl
theorem OV(m i:Nat):Tx m i - i<=9:=by
 unfold Tx;split<;>omega
noncomputable def lp(m:Nat):Nat->Nat->Nat->Nat×Nat
 | 0,i,p=>(i,p)
 | n+1,i,p=>lp m n (XB m i p).1 (XB m i p).2
theorem Hh{m:Nat}{h:Int}:∀(n c i p:Nat),pth m h c=hd m i p->∃c',c<=c'/\c'<=c+10*n/\pth m h c'=hd m (lp m n i p).1 (lp m n i p).2
 | 0,c,i,p,e=>⟨c,w_ _,by omega,e⟩
 | n+1,c,i,p,e=>by
  obtain⟨c',h1,h2,h3⟩:=Hh n _ _ _ (Da e);have:=OV m i;exact⟨c',by omega,by omega,h3⟩
theorem yc(m:Nat):∀(a b i p:Nat),lp m (a+b) i p=lp m b (lp m a i p).1 (lp m a i p).2
 | 0,b,i,p=>by rw[XZ];rfl
 | a+1,b,i,p=>by rw[Nat.succ_add,lp,yc m a b];rfl
theorem Ae(m:Nat):∀(n i p:Nat),(lp m n i p).2=p / 32 ^ n
 | 0,i,p=>by simp[lp]
 | n+1,i,p=>by
  rw[lp,Ae m n];show(p / 32) / 32 ^ n=_;rw[Nat.div_div_eq_div_mul,Nat.pow_succ,Nat.mul_comm]
theorem CI{m:Nat}:∀(n i p:Nat),i < m+1->(lp m n i p).1 < m+1
 | 0,i,p,h=>h
 | n+1,i,p,h=>by
  rw[lp];exact CI n _ _ (Yf _ (X2 _))
theorem Pn(h:Int):WH h < 2 ^ 64:=by
 unfold WH;have h1:=UE h (b:=2 ^ 64) (by decide);have h2:=Vx h (b:=2 ^ 64) (by decide);omega
def Round(m:Nat):Prop:=∀i,i < m+1->∀j,j < m+1->∃n,n < m+1/\(lp m n i 0).1=j
theorem round7:Round 7:=by
 have:∀i,i < 8->∀j,j < 8->∃n,n < 8/\(lp 7 n i 0).1=j:=by decide +kernel
 exact this
theorem round31:Round 31:=by
 have:∀i,i < 32->∀j,j < 32->∃n,n < 32/\(lp 31 n i 0).1=j:=by decide +kernel
 exact this
theorem Dq(R:Round m)(h:Int)(hj:j < m+1):∃n,n < m+14/\(lp m n (WH h % (m+1)) (WH h)).1=j:=by
 have p0:(lp m 13 (WH h % (m+1)) (WH h)).2=0:=by
  rw[Ae];refine Nat.div_eq_of_lt (K_ (Pn h) ?_);decide
 have l0:=CI (m:=m) 13 (WH h % (m+1)) (WH h) (Yf _ (X2 _));obtain⟨n,h1,h2⟩:=R _ l0 j hj;refine⟨13+n,by omega,?_⟩;rw[yc,p0];exact h2
theorem OD(R:Round m)(h:Int)(hj:j < m+1):∃k,k < 10*(m+14)/\sl m h k=j:=by
 obtain⟨n,h1,h2⟩:=Dq R h hj;obtain⟨c,h3,h4,h5⟩:=Hh (m:=m) (h:=h) n 0 _ _ rfl;refine⟨c,by omega,?_⟩;unfold sl;rw[h5];exact h2
end
noncomputable def orb(m:Nat):Nat->Nat->List Nat
 | 0,_=>[]
 | k+1,i=>i::orb m k (XB m i 0).1
theorem HA(m i:Nat):(XB m i 0).2=0:=by
 show 0 / 32=0;rfl
theorem LL(m n i:Nat):lp m (n+1) i 0=lp m n (XB m i 0).1 0:=by
 rw[lp,HA]
theorem Ct(m n i:Nat):(lp m n i 0).2=0:=by rw[Ae];simp
theorem GS(m:Nat):∀(k i n:Nat),n < k->(orb m k i)[n]?=some (lp m n i 0).1
 | 0,_,_,h=>by omega
 | k+1,i,0,_=>rfl
 | k+1,i,n+1,h=>by
  rw[orb,Te,GS m k _ n (by omega),LL]
theorem Ll(h:j∈orb m k i)(hl:(orb m k i).length=k):∃n,n < k/\(lp m n i 0).1=j:=by
 obtain⟨n,hn,e⟩:=TL h;refine⟨n,by omega,?_⟩;have:=GS m k i n (by omega);rw[g_ hn,e] at this;exact(RY this).symm
theorem Cz(m:Nat):∀(k i:Nat),(orb m k i).length=k
 | 0,_=>rfl
 | k+1,i=>by rw[orb,R8,Cz m k]
theorem round127:Round 127:=by
 have all:∀j,j < 128->∃n,n < 128/\(lp 127 n 0 0).1=j:=λj hj=>by
  have c:∀j,j < 128->j∈orb 127 128 0:=by decide +kernel
  exact Ll (c j hj) (Cz _ _ _)
 have turn:(lp 127 128 0 0).1=0:=by decide +kernel
 intro i hi j hj;obtain⟨a,ha,ea⟩:=all i hi;obtain⟨b,hb,eb⟩:=all j hj;have hZ:∀n,lp 127 n i 0=lp 127 (a+n) 0 0:=λn=>by rw[yc,ea,Ct]
 rcases UC b a with z | z
 ·refine⟨b+128 - a,by omega,?_⟩;rw[hZ,show a+(b+128 - a)=128+b by omega,yc,turn,Ct,eb]
 ·exact⟨b - a,by omega,by rw[hZ,show a+(b - a)=b by omega,eb]⟩
noncomputable def hA(es:Array (Int×b_))(i:Nat):Int:=(es[i]?.map (·.1)).getD 0
theorem Hj(h:i < es.size):hA es i=es[i].1:=by
 unfold hA;rw[k_ h];rfl
structure TabOk(t:Sz)(es:Array (Int×b_)):Prop where
 nd:t.dummies=#[]
 ris:Ris t.place
 sz:t.place.size=es.size
 low:∀i (h:i < t.place.size),t.place[i]<=t.mask
 few:t.place.size<=60/\(t.mask=127\/(t.mask=31/\t.place.size<=18)\/(t.mask=7/\t.place.size<=4))
 pl:t.plain=true
 reach:∀i (h:i < es.size) (h':i < t.place.size),∃k,sl t.mask es[i].1 k=t.place[i]/\∀k',k' < k->sl t.mask es[i].1 k'∈t.place
theorem Bh:∀(n:Nat) (l:List Nat),(∀j,j < n->j∈l)->n<=l.length
 | 0,_,_=>Sh _
 | n+1,l,h=>by
  have:=Bh n (l.erase n) λj hj=>(List.mem_erase_of_ne (by omega)).mpr (h j (by omega))
  rw[VI (h n (by omega))] at this;have:0 < l.length:=List.length_pos_of_mem (h n (by omega));omega
section
variable{t:Sz}
theorem TabOk.round(T:TabOk t es):Round t.mask:=by
 rcases T.few.2 with h | h | h
 ·rw[h];exact round127
 ·rw[h.1];exact round31
 ·rw[h.1];exact round7
theorem TabOk.free(T:TabOk t es)(h:Int):∃K,K < 10*(t.mask+14)/\sl t.mask h K∉t.place/\∀k,k < K->sl t.mask h k∈t.place:=by
 have ex:∃k,k < 10*(t.mask+14)/\sl t.mask h k∉t.place:=by
  apply Ud
  intro no
  have:t.mask+1<=t.place.toList.length:=Bh (t.mask+1) _ λj hj=>by
   obtain⟨k,k1,k2⟩:=OD T.round h hj
   apply Ud
   intro nj;exact no ⟨k,k1,by rw[k2];simpa using nj⟩
  rw[Ss] at this;have:=T.few;omega
 obtain⟨k,k1,k2⟩:=ex
 induction k using Nat.strongRecOn with
 | ind k ih =>
  by_cases z:∃k',k' < k/\sl t.mask h k'∉t.place
  ·obtain⟨k',a,b⟩:=z;exact ih k' a (by omega) b
  ·refine⟨k,k1,k2,λk' bO=>?_⟩
   apply Ud
   intro nj;exact z ⟨k',bO,nj⟩
theorem E9(h:i<=m):i+(Tx m i - i)<=m:=by
 unfold Tx;split<;>omega
theorem zD(m:Nat)(h:Int):∀k,(pth m h k).j+(pth m h k).more<=m/\(pth m h k).i<=m
 | 0=>by
  have:WH h % (m+1)<=m:=Vy (Yf _ (X2 _));exact⟨E9 this,this⟩
 | k+1=>by
  have ih:=zD m h k;rw[pth]
  revert ih
  rcases pth m h k with⟨j,more,i,q,d⟩
  intro ih;cases more with
  | zero =>
   have:(XB m i q).1<=m:=Vy (Yf _ (X2 _));exact⟨E9 this,this⟩
  | succ more =>
   dsimp only at ih;exact⟨by show j+1+more<=m;omega,ih.2⟩
theorem M2{xs:Array Nat}(h:j∈xs):∃i,∃h:i < xs.size,xs[i]=j:=by
 obtain⟨i,hi,e⟩:=U0 h;exact⟨i,hi,e⟩
theorem Ex(T:TabOk t es){h:Int}{K:Nat}(hK:sl t.mask h K∉t.place)(hk:∀k,k < K->sl t.mask h k∈t.place):∀(f k:Nat),k<=K->K - k < f →
  (∃k' i,∃hi:i < es.size,∃bw:i < t.place.size,k<=k'/\k' < K/\t.place[i]=sl t.mask h k'/\es[i].1=h/\Vp t (hA es) h f (pth t.mask h k)=some (.candidate (sl t.mask h k') i (pth t.mask h (k'+1))) ∧
   ∀bG,k<=bG->bG < k'->∀j (hj:j < es.size) (bE:j < t.place.size),t.place[j]=sl t.mask h bG->es[j].1≠h) ∨
  (Vp t (hA es) h f (pth t.mask h k)=some (.empty (sl t.mask h K) none)/\∀bG,k<=bG->bG < K->∀j (hj:j < es.size) (bE:j < t.place.size),t.place[j]=sl t.mask h bG->es[j].1≠h)
 | 0,k,h1,h2=>by omega
 | f+1,k,h1,h2=>by
  by_cases z:k=K
  ·subst z;right;refine⟨?_,λbG a b=>by omega⟩;rw[Vp,show(pth t.mask h k).j=sl t.mask h k from rfl,JW T.ris T.nd hK,G8]
  ·obtain⟨i,hi,e⟩:=M2 (hk k (by omega));have cC:i < es.size:=by rw[←T.sz];exact hi
   have st:t.slot (pth t.mask h k).j=.live i:=by
    rw[show(pth t.mask h k).j=t.place[i] from e.symm];exact DN T.ris hi
   have only:∀j (bE:j < t.place.size),t.place[j]=sl t.mask h k->j=i:=λj bE ej=>by
    rcases UT j i with l | l | l
    ·have:=T.ris j i bE hi l;omega
    ·exact l
    ·have:=T.ris i j hi bE l;omega
   by_cases same:es[i].1=h
   ·left;refine⟨k,i,cC,hi,w_ _,by omega,e,same,?_,λbG a b=>by omega⟩;rw[Vp,st];dsimp only;rw[Hj cC,same,if_pos (by simp),Hl];rfl
   ·have go:Vp t (hA es) h (f+1) (pth t.mask h k)=Vp t (hA es) h f (pth t.mask h (k+1)):=by
     rw[Vp,st];dsimp only;rw[Hj cC,if_neg (by simpa using same),Hl]
    rw[go]
    have here:∀j (hj:j < es.size) (bE:j < t.place.size),t.place[j]=sl t.mask h k->es[j].1≠h:=λj hj bE ej=>by
     have:=only j bE ej;subst this;exact same
    rcases Ex T hK hk f (k+1) (by omega) (by omega) with⟨k',i',a1,a2,a3,a4,a5,a6,a7,a8⟩ | ⟨a1,a2⟩
    ·refine .inl ⟨k',i',a1,a2,by omega,a4,a5,a6,a7,λbG b1 b2 j hj bE ej=>?_⟩;by_cases z':bG=k
     ·subst z';exact here j hj bE ej
     ·exact a8 bG (by omega) b2 j hj bE ej
    ·refine .inr ⟨a1,λbG b1 b2 j hj bE ej=>?_⟩;by_cases z':bG=k
     ·subst z';exact here j hj bE ej
     ·exact a2 bG (by omega) b2 j hj bE ej
theorem wc{α:Type}{xs:Array α}{p:Nat}(hp:p<=xs.size)(x:α)(i:Nat):(SA xs p x)[i]?=if i < p then xs[i]? else if i=p then some x else xs[i - 1]?:=by
 unfold SA;rw[Array.getElem?_append,Array.size_push,Vd];have e:min p xs.size - 0=p:=by omega
 rw[e];by_cases h1:i < p
 ·rw[if_pos (by omega),if_pos h1,WI,Vd,e,if_neg (by omega),V2,if_pos (by omega),XZ]
 ·rw[if_neg h1];by_cases h2:i=p
  ·rw[if_pos (by omega),if_pos h2,WI,Vd,e,if_pos h2]
  ·rw[if_neg (by omega),if_neg h2,V2];by_cases h3:i - (p+1) < min xs.size xs.size - p
   ·rw[if_pos h3]
    congr 1
    omega
   ·rw[if_neg h3]
    symm
    rw[Tq];omega
theorem Ab{α:Type}{xs:Array α}{p:Nat}(hp:p<=xs.size)(x:α):(SA xs p x).size=xs.size+1:=by
 unfold SA;rw[Array.size_append,Array.size_push,Vd,Vd];omega
theorem EJ{α:Type}{xs:Array α}{p:Nat}(hp:p<=xs.size)(x y:α):y∈SA xs p x↔y=x\/y∈xs:=by
 constructor
 ·intro h;obtain⟨i,e⟩:=TU.mp h;rw[wc hp] at e;split at e
  ·exact .inr (UL e)
  ·split at e
   ·cases e;exact .inl rfl
   ·exact .inr (UL e)
 ·rintro(rfl | h)
  ·refine TU.mpr ⟨p,?_⟩;rw[wc hp,if_neg (by omega),if_pos rfl]
  ·obtain⟨i,e⟩:=TU.mp h;by_cases z:i < p
   ·exact TU.mpr ⟨i,by rw[wc hp,if_pos z];exact e⟩
   ·exact TU.mpr ⟨i+1,by rw[wc hp,if_neg (by omega),if_neg (by omega)];exact e⟩
theorem OB(T:TabOk t es){h:Int}{x:b_}{K:Nat}(hK:sl t.mask h K∉t.place)(hk:∀k,k < K->sl t.mask h k∈t.place):
  let q:=t.put (sl t.mask h K)
  q.1.dummies=#[]/\Ris q.1.place/\q.1.place.size=(SA es q.2 (h,x)).size/\(∀i (h:i < q.1.place.size),q.1.place[i]<=q.1.mask)/\q.1.mask=t.mask/\q.1.plain=t.plain/\q.1.led=t.led/\q.1.moves=t.moves/\q.1.place.size=t.place.size+1/\q.2<=es.size ∧
   (∀i (h1:i < (SA es q.2 (h,x)).size) (h2:i < q.1.place.size),∃k,sl q.1.mask (SA es q.2 (h,x))[i].1 k=q.1.place[i]/\∀k',k' < k->sl q.1.mask (SA es q.2 (h,x))[i].1 k'∈q.1.place):=by
 intro q;obtain⟨b1,b2,b3⟩:=yz T.ris (sl t.mask h K);have q2:q.2=UK t.place (sl t.mask h K):=rfl;have q1:q.1.place=SA t.place (UK t.place (sl t.mask h K)) (sl t.mask h K):=rfl;have hp:q.2<=es.size:=by rw[q2,←T.sz];exact b1
 have nh:has t.dummies (sl t.mask h K)=false:=by rw[T.nd];rfl
 have qd:q.1.dummies=#[]:=by
  show(if has t.dummies (sl t.mask h K)=true then _ else t.dummies)=_;rw[nh,if_neg l_];exact T.nd
 have get:∀i (h2:i < q.1.place.size),(i < q.2/\∃hi:i < t.place.size,q.1.place[i]=t.place[i])\/(i=q.2/\q.1.place[i]=sl t.mask h K)\/(q.2 < i/\∃hi:i - 1 < t.place.size,q.1.place[i]=t.place[i - 1]):=λi h2=>by
  have e:=wc (x:=sl t.mask h K) b1 i;rw[←q1,←q2,k_ h2] at e;by_cases z1:i < q.2
  ·rw[if_pos z1] at e;obtain⟨hi,e⟩:=D_.mp e.symm;exact .inl ⟨z1,hi,e.symm⟩
  ·rw[if_neg z1] at e;by_cases z2:i=q.2
   ·rw[if_pos z2] at e;exact .inr (.inl ⟨z2,RY e⟩)
   ·rw[if_neg z2] at e;obtain⟨hi,e⟩:=D_.mp e.symm;exact .inr (.inr ⟨by omega,hi,e.symm⟩)
 have sz:q.1.place.size=t.place.size+1:=by rw[q1];exact Ab b1 _
 have ne:∀i (hi:i < t.place.size),t.place[i]≠sl t.mask h K:=λi hi z=>hK (by rw[←z];exact TC hi)
 refine⟨qd,?_,by rw[sz,Ab hp,T.sz],?_,rfl,rfl,rfl,rfl,sz,hp,?_⟩
 ·intro i j hi hj lt
  rcases get i hi with⟨a1,a2,a3⟩ | ⟨a1,a3⟩ | ⟨a1,a2,a3⟩<;>rcases get j hj with⟨c1,c2,c3⟩ | ⟨c1,c3⟩ | ⟨c1,c2,c3⟩
  ·rw[a3,c3];exact T.ris i j a2 c2 lt
  ·rw[a3,c3];exact b2 i a2 (by omega)
  ·rw[a3,c3];have:=b2 i a2 (by omega);have:=b3 (j - 1) c2 (by omega);omega
  ·omega
  ·omega
  ·rw[a3,c3];have:=b3 (j - 1) c2 (by omega);have:=ne (j - 1) c2;omega
  ·omega
  ·omega
  ·rw[a3,c3];exact T.ris (i - 1) (j - 1) a2 c2 (by omega)
 ·intro i hi;show _<=t.mask
  rcases get i hi with⟨a1,a2,a3⟩ | ⟨a1,a3⟩ | ⟨a1,a2,a3⟩
  ·rw[a3];exact T.low _ _
  ·rw[a3];have:=(zD t.mask h K).1;unfold sl;omega
  ·rw[a3];exact T.low _ _
 ·intro i h1 h2;have dW:∀y,y∈t.place->y∈q.1.place:=λy hy=>by rw[q1];exact(EJ b1 _ _).mpr (.inr hy)
  have e:=wc (x:=(h,x)) hp i;rw[k_ h1] at e;show ∃k,sl t.mask _ k=_/\∀k',k' < k->sl t.mask _ k'∈_
  rcases get i h2 with⟨a1,a2,a3⟩ | ⟨a1,a3⟩ | ⟨a1,a2,a3⟩
  ·rw[if_pos a1] at e;obtain⟨hi,e⟩:=D_.mp e.symm;obtain⟨k,k1,k2⟩:=T.reach i hi a2;rw[←e,a3];exact⟨k,k1,λk' bO=>dW _ (k2 k' bO)⟩
  ·rw[if_neg (by omega),if_pos a1] at e;rw[RY e,a3];exact⟨K,rfl,λk' bO=>dW _ (hk k' bO)⟩
  ·rw[if_neg (by omega),if_neg (by omega)] at e;obtain⟨hi,e⟩:=D_.mp e.symm;obtain⟨k,k1,k2⟩:=T.reach (i - 1) hi a2;rw[←e,a3];exact⟨k,k1,λk' bO=>dW _ (k2 k' bO)⟩
end
noncomputable def tak(o:Array (Option Nat))(j:Nat):Bool:=(o.getD j (some 0)).isSome
theorem EH{m:Nat}{o:Array (Option Nat)}{h:Int}:∀(f c i p:Nat),pth m h c=hd m i p →
  (∃k,c<=k/\UU m o f i p=some (sl m h k)/\tak o (sl m h k)=false/\∀k',c<=k'->k' < k->tak o (sl m h k')=true)\/(∀n,n < f->tak o (lp m n i p).1=true)
 | 0,c,i,p,e=>.inr λn h=>by omega
 | f+1,c,i,p,e=>by
  have run:=λd cx=>Ax e d cx
  have bp:∀d,d<=Tx m i - i->sl m h (c+d)=i+d:=λd cx=>by unfold sl;rw[run d cx]
  have up:i<=Tx m i:=by unfold Tx;split<;>omega
  rw[UU];cases hf:(Sx (Tx m i+1 - i)).find? λk=>(o.getD (i+k) (some 0)).isNone with
  | some d =>
   obtain⟨d1,d2,d3⟩:=List.find?_range_eq_some.mp hf;rw[SY] at d2;left;refine⟨c+d,by omega,?_,?_,λk' a b=>?_⟩
   ·dsimp only;rw[bp d (by omega)]
   ·rw[bp d (by omega)];unfold tak;cases x:o.getD (i+d) (some 0) with
    | none=>rfl
    | some v=>rw[x] at d1;cases d1
   ·obtain⟨d',rfl⟩:∃d',k'=c+d':=⟨k' - c,by omega⟩;rw[bp d' (by omega)];have:=d3 d' (by omega);unfold tak;cases x:o.getD (i+d') (some 0) with
    | none=>rw[x] at this;cases this
    | some v=>rfl
  | none =>
   have no:=List.find?_range_eq_none.mp hf
   have all:∀k',c<=k'->k' < c+(Tx m i - i)+1->tak o (sl m h k')=true:=λk' a b=>by
    obtain⟨d',rfl⟩:∃d',k'=c+d':=⟨k' - c,by omega⟩;rw[bp d' (by omega)];have:=no d' (by omega);unfold tak;cases x:o.getD (i+d') (some 0) with
    | none=>rw[x] at this;cases this
    | some v=>rfl
   dsimp only
   rcases EH (o:=o) f _ _ _ (Da e) with⟨k,k1,k2,k3,k4⟩ | ao
   ·left;refine⟨k,by omega,k2,k3,λk' a b=>?_⟩;by_cases z:k' < c+(Tx m i - i)+1
    ·exact all k' a z
    ·exact k4 k' (by omega) b
   ·right;intro n hn;cases n with
    | zero =>
     have:=all c (w_ _) (by omega);rw[←Nat.add_zero c,bp 0 (by omega)] at this;exact this
    | succ n =>
     rw[lp];exact ao n (by omega)
theorem xS:∀(k:Nat) (l:List Nat),l.Nodup->(∀x∈l,x < k)->l.length<=k
 | 0,l,_,h=>by
  cases l with
  | nil=>exact w_ _
  | cons x l=>exact absurd (h x m_) (Wu _)
 | k+1,l,nd,h=>by
  by_cases z:k∈l
  ·have:=xS k (l.erase k) (nd.erase k) λx hx=>by
    have h1:=h x (List.mem_of_mem_erase hx)
    have h2:x≠k:=λe=>by
     subst e;exact(X3.not_mem_erase nd) hx
    omega
   rw[VI z] at this;omega
  ·have:=xS k l nd λx hx=>by
    have h1:=h x hx;have h2:x≠k:=λe=>z (e▸hx)
    omega
   omega
structure Laid(m:Nat)(hs:List Int)(o:Array (Option Nat))(k:Nat):Prop where
 sz:o.size=m+1
 old:∀(j v:Nat),o[j]?=some (some v)->v < k
 one:∀(j j' v:Nat),o[j]?=some (some v)->o[j']?=some (some v)->j=j'
 way:∀(v:Nat),v < k->∃(j c:Nat),o[j]?=some (some v)/\sl m (hs.getD v 0) c=j/\∀c',c' < c->tak o (sl m (hs.getD v 0) c')=true
theorem Laid.room{hs:List Int}{o:Array (Option Nat)}(L:Laid m hs o k)(hk:k<=m):∃j,j < m+1/\tak o j=false:=by
 apply Ud
 intro no
 have all:∀j,j < m+1->∃v,o[j]?=some (some v):=λj hj=>by
  have t:tak o j=true:=by
   cases x:tak o j with
   | true=>rfl
   | false=>exact absurd ⟨j,hj,x⟩ no
  unfold tak at t;rw[Yk,dif_pos (by rw[L.sz];exact hj)] at t;rw[k_ (by rw[L.sz];exact hj)];cases x:o[j]'(by rw[L.sz];exact hj) with
  | none=>simp[x] at t
  | some v=>exact⟨v,rfl⟩
 have nd:((Sx (m+1)).map λj=>((o[j]?).bind id).getD 0).Nodup:=by
  unfold X3;rw[Xe];refine imp_of_mem ?_ List.nodup_range;intro a b ha hb ne e;obtain⟨v,hv⟩:=all a (SY.mp ha);obtain⟨v',cD⟩:=all b (SY.mp hb);rw[hv,cD] at e;have e:v=v':=e;subst e;exact ne (L.one a b v hv cD)
 have:=xS k _ nd λx hx=>by
  obtain⟨j,hj,rfl⟩:=u_.mp hx;obtain⟨v,hv⟩:=all j (SY.mp hj);rw[hv];exact L.old j v hv
 rw[q_,Vc] at this;omega
theorem Laid.step(R:Round m){hs:List Int}{o:Array (Option Nat)}(L:Laid m hs o k)(hk:k<=m):∃j,UU m o (X5 m) (WH (hs.getD k 0) % (m+1)) (WH (hs.getD k 0))=some j/\Laid m hs (o.setIfInBounds j (some k)) (k+1):=by
 rcases EH (m:=m) (o:=o) (h:=hs.getD k 0) (X5 m) 0 _ _ rfl with⟨K,_,k2,k3,k4⟩ | full
 ·refine⟨_,k2,?_⟩
  have hj:sl m (hs.getD k 0) K < o.size:=by
   rw[L.sz];have:=(zD m (hs.getD k 0) K).1;unfold sl;omega
  have free:o[sl m (hs.getD k 0) K]?=some none:=by
   unfold tak at k3;rw[S2,k_ hj] at k3;rw[k_ hj];cases x:o[sl m (hs.getD k 0) K] with
   | none=>rfl
   | some v=>rw[x] at k3;cases k3
  have get:∀i,(o.setIfInBounds (sl m (hs.getD k 0) K) (some k))[i]?=if sl m (hs.getD k 0) K=i then some (some k) else o[i]?:=λi=>by
   rw[Array.getElem?_setIfInBounds];split
   ·rename_i e;subst e;simp[hj]
   ·rfl
  have more:∀i,tak o i=true->tak (o.setIfInBounds (sl m (hs.getD k 0) K) (some k)) i=true:=λi hi=>by
   unfold tak at hi ⊢;rw[S2] at hi ⊢;rw[get];split
   ·rfl
   ·exact hi
  refine⟨by rw[VJ];exact L.sz,λj v e=>?_,λj j' v e e'=>?_,λv hv=>?_⟩
  ·rw[get] at e;split at e
   ·cases e;omega
   ·have:=L.old j v e;omega
  ·rw[get] at e e';split at e
   ·cases e;split at e'
    ·omega
    ·have:=L.old j' k e';omega
   ·split at e'
    ·cases e';have:=L.old j k e;omega
    ·exact L.one j j' v e e'
  ·by_cases z:v=k
   ·subst z;exact⟨_,K,by rw[get,if_pos rfl],rfl,λc' aW=>more _ (k4 c' (Sh _) aW)⟩
   ·obtain⟨j,c,e1,e2,e3⟩:=L.way v (by omega);refine⟨j,c,?_,e2,λc' aW=>more _ (e3 c' aW)⟩;rw[get,if_neg ?_]
    ·exact e1
    ·intro e;subst e;rw[free] at e1;cases e1
 ·obtain⟨j,hj,tj⟩:=L.room hk;obtain⟨n,n1,n2⟩:=Dq R (hs.getD k 0) hj;have:=full n (by unfold X5;omega);rw[n2,tj] at this;cases this
theorem NH(R:Round m)(hs:List Int)(hm:hs.length<=m):∃o,layClean m hs.toArray=some o/\Laid m hs o hs.length:=by
 unfold layClean;rw[←Array.foldl_toList]
 have bq:∀(l pre:List Int) (o:Array (Option Nat)),hs=pre++l->Laid m hs o pre.length->∃o',List.foldl (λag h=>do
   let (owner,k) ←ag
   let j ←UU m owner (X5 m) (WH h % (m+1)) (WH h)
   pure (owner.setIfInBounds j (some k),k+1)) (some (o,pre.length)) l=some (o',hs.length)/\Laid m hs o' hs.length:=by
  intro l
  induction l with
  | nil =>
   intro pre o e L;rw[SO] at e;subst e;exact⟨o,rfl,L⟩
  | cons h l ih =>
   intro pre o e L;have gk:hs.getD pre.length 0=h:=by rw[e,h_];simp
   have lk:pre.length<=m:=by
    have:=congrArg length e;simp at this;omega
   obtain⟨j,j1,j2⟩:=L.step R lk;rw[gk] at j1;obtain⟨o',h1,h2⟩:=ih (pre++[h]) (o.setIfInBounds j (some pre.length)) (by rw[e];simp) (by simpa using j2);refine⟨o',?_,h2⟩;rw[X6,←h1]
   congr 1
   show(UU m o (X5 m) (WH h % (m+1)) (WH h)).bind _=_;rw[j1];simp
 have aX:∀(j v:Nat),(Array.replicate (m+1) (none:Option Nat))[j]?=some (some v)->False:=λj v e=>by
  rw[Array.getElem?_replicate] at e;split at e
  ·cases e
  ·cases e
 obtain⟨o',h1,h2⟩:=bq hs [] (Array.replicate (m+1) none) rfl ⟨by simp,λj v e=>(aX j v e).elim,λj j' v e=>(aX j v e).elim,λv hv=>absurd hv (Wu _)⟩
 exact⟨o',by
  have:=congrArg (Option.map (·.1)) h1
  exact this,h2⟩
theorem Kj(R:Round m)(few:(m=31/\es.size<=18)\/(m=127/\es.size<=60))(finger moves:Nat)(led:Bool):∃t ce,laid m finger moves led true (es.map (·.1))=some (t,ce)/\(ce.filterMap (es[·]?)).size=es.size/\TabOk t (ce.filterMap (es[·]?))/\t.mask=m/\t.led=led ∧
  (∀x,x∈ce.filterMap (es[·]?)↔x∈es):=by
 obtain⟨o,h1,L⟩:=NH R (es.map (·.1)).toList (by simp;omega);rw[Array.toArray_toList] at h1;have nl:(es.map (·.1)).toList.length=es.size:=by simp
 rw[nl] at L;obtain⟨live,eh⟩:∃live:List (Nat×Nat),live=(Sx (m+1)).filterMap λj=>(o.getD j none).map (j,·):=⟨_,rfl⟩
 have mem:∀j v,(j,v)∈live↔o[j]?=some (some v):=λj v=>by
  rw[eh,VD];constructor
  ·rintro⟨a,ha,e⟩;rw[S2] at e;cases x:o[a]? with
   | none=>rw[x] at e;cases e
   | some w =>
    rw[x] at e;cases w with
    | none=>cases e
    | some w=>cases e;exact x
  ·intro e;have:=(D_.mp e).1;refine⟨j,SY.mpr (by rw[L.sz] at this;exact this),?_⟩;rw[S2,e];rfl
 have ris:live.Pairwise λa b=>a.1 < b.1:=by
  rw[eh,List.pairwise_filterMap];refine WO.imp ?_ List.pairwise_lt_range;intro a b lt x hx y hy;cases e:o.getD a none with
  | none=>rw[e] at hx;cases hx
  | some v =>
   rw[e] at hx;cases hx;cases e':o.getD b none with
   | none=>rw[e'] at hy;cases hy
   | some v'=>rw[e'] at hy;cases hy;exact lt
 have nB:(live.map (·.2)).Nodup:=by
  unfold X3;rw[Xe];refine imp_of_mem ?_ ris;intro a b ha hb lt e;have h1:=(mem a.1 a.2).mp ha;have h2:=(mem b.1 b.2).mp hb;rw[e] at h1;have:=L.one _ _ _ h1 h2;omega
 have lo:live.length=es.size:=by
  refine Nat.le_antisymm ?_ ?_
  ·have:=xS es.size (live.map (·.2)) nB λx hx=>by
    obtain⟨q,hq,rfl⟩:=u_.mp hx;exact L.old q.1 q.2 ((mem _ _).mp hq)
   simpa using this
  ·have:=Bh es.size (live.map (·.2)) λv hv=>by
    obtain⟨j,c,e,_⟩:=L.way v hv;exact u_.mpr ⟨(j,v),(mem j v).mpr e,rfl⟩
   simpa using this
 have low:∀q∈live,q.2 < es.size:=λq hq=>L.old q.1 q.2 ((mem _ _).mp hq)
 have out:((live.map (·.2)).toArray.filterMap (es[·]?)).toList=live.map λq=>es[q.2]?.getD (0,b_.none):=by
  rw[Array.toList_filterMap];show(live.map (·.2)).filterMap (es[·]?)=_;clear lo nB ris mem eh
  induction live with
  | nil=>rfl
  | cons q live ih =>
   have hq:=low q m_;rw[G_,Uu,k_ hq,G_,k_ hq];rw[ih λq hq=>low q (j_ _ hq)];rfl
 refine⟨{ mask:=m,place:=(live.map (·.1)).toArray,dummies:=#[],finger,led,moves,plain:=true },(live.map (·.2)).toArray,?_,?_,?_,rfl,rfl,λx=>?_⟩
 ·unfold laid;rw[h1];show some _=some _;rw[eh]
 ·rw[←Ss,out,q_,lo]
 ·have pH:((live.map (·.2)).toArray.filterMap (es[·]?)).size=live.length:=by rw[←Ss,out,q_]
  have pI:∀i (h1:i < ((live.map (·.2)).toArray.filterMap (es[·]?)).size) (h2:i < live.length),((live.map (·.2)).toArray.filterMap (es[·]?))[i]=es[live[i].2]?.getD (0,b_.none):=λi h1 h2=>by
   rw[←Wt]
   have:((live.map (·.2)).toArray.filterMap (es[·]?)).toList[i]'(by rw[Ss];exact h1)=(live.map λq=>es[q.2]?.getD (0,b_.none))[i]'(by simpa using h2):=by
    congr 1
   rw[this,Vv]
  refine⟨rfl,λi j hi hj lt=>?_,?_,λi hi=>?_,⟨?_,?_⟩,rfl,λi h1 h2=>?_⟩
  ·simp at hi hj;simp only[U2,Vv];exact(Vt.mp ris) i j hi hj lt
  ·rw[pH];simp
  ·simp at hi;simp only[U2,Vv];have:=(mem live[i].1 live[i].2).mp (Sf hi);have:=(D_.mp this).1;rw[L.sz] at this;show _<=m;omega
  ·simp;omega
  ·have ll:(live.map (·.1)).toArray.size=live.length:=by simp
   show m=127\/(m=31/\(live.map (·.1)).toArray.size<=18)\/(m=7/\_)
   rcases few with z | z
   ·exact .inr (.inl ⟨z.1,by rw[ll];omega⟩)
   ·exact .inl z.1
  ·have lj:i < live.length:=by simpa using h2
   rw[pI i h1 lj];simp only[U2,Vv];have m1:=(mem live[i].1 live[i].2).mp (Sf lj);have v1:=low live[i] (Sf lj);obtain⟨j,c,e1,e2,e3⟩:=L.way live[i].2 v1;have:j=live[i].1:=L.one _ _ _ e1 m1;subst this
   have hh:(es.map (·.1)).toList.getD live[i].2 0=es[live[i].2].1:=by
    rw[h_];simp[v1]
   rw[hh] at e2 e3;rw[k_ v1];refine⟨c,e2,λc' aW=>?_⟩;have tk:=e3 c' aW;unfold tak at tk;have lt:=(zD m es[live[i].2].1 c').1;have lt:sl m es[live[i].2].1 c' < o.size:=by rw[L.sz];unfold sl;omega
   rw[Yk,dif_pos lt] at tk;show sl m es[live[i].2].1 c'∈_;cases x:o[sl m es[live[i].2].1 c'] with
   | none=>simp[x] at tk
   | some v =>
    have:(sl m es[live[i].2].1 c',v)∈live:=(mem _ _).mpr (by rw[k_ lt,x]);simp only[List.mem_toArray,u_];exact⟨_,this,rfl⟩
 ·rw[←Wv,out,u_];constructor
  ·rintro⟨q,hq,rfl⟩;rw[k_ (low q hq)];exact TC _
  ·intro hx;obtain⟨v,hv,rfl⟩:=U0 hx;obtain⟨j,c,e,_⟩:=L.way v hv;refine⟨(j,v),(mem j v).mpr e,?_⟩;dsimp only;rw[k_ hv];rfl
end DL
namespace DL
open PySem PySem.W PySem.Spec PyProof.Rows L2
mutual
def KV(h:RV):D->b_->Prop
 | .int i,u=>∃t,u=.int i t
 | .tup ds,u=>∃a o ac e,u=.ref a/\h.get? a=some o/\o.cls=.type "tuple"/\o.data=.seq (ac:List b_).toArray e/\KVs h ds ac
 | _,_=>False
def KVs(h:RV):List D->List b_->Prop
 | [],[]=>True
 | d::ds,u::us=>KV h d u/\KVs h ds us
 | _,_=>False
end
mutual
noncomputable def kyB:D->Bool
 | .int _=>true
 | .tup ds=>kyA ds
 | _=>false
noncomputable def kyA:List D->Bool
 | []=>true
 | d::ds=>kyB d&&kyA ds
end
section
variable{H:Hp}{s:c_}
mutual
theorem BF(I:Inv X aa Z H s):∀(d:D) (x:V) (u:b_),kyB d=true->Is X.K H d x->RelV x u->KV s.heap d u
 | .int i,x,u,_,h,r=>by
  rw[sQ h] at r;obtain⟨t,rfl⟩:=r;rw[KV];exact⟨t,rfl⟩
 | .tup ds,x,u,ky,h,r=>by
  obtain⟨a,xs,rfl,h1,h2⟩:=sY h;cases r;obtain⟨ac,r1,t1,_⟩:=I.tuple h1;obtain⟨o,e1,e2,n,e3⟩:=t1;rw[kyB] at ky;rw[KV];exact⟨a,o,ac,n,rfl,e1,e2,e3,Eu I ds xs ac ky h2 r1⟩
 | .non,_,_,ky,_,_=>by simp[kyB] at ky
 | .bl _,_,_,ky,_,_=>by simp[kyB] at ky
 | .str _,_,_,ky,_,_=>by simp[kyB] at ky
 | .lst _,_,_,ky,_,_=>by simp[kyB] at ky
 | .exc _ _,_,_,ky,_,_=>by simp[kyB] at ky
theorem Eu(I:Inv X aa Z H s):∀(ds:List D) (xs:List V) (us:List b_),kyA ds=true->IsA X.K H ds xs->Vals xs us->KVs s.heap ds us
 | [],xs,us,_,h,r=>by
  have:=h.nil_inv;subst this;cases r;rw[KVs];trivial
 | d::ds,xs,us,ky,h,r=>by
  obtain⟨x,xr,rfl,h1,h2⟩:=h.cons_inv;cases r with
  | cons r1 r2 =>
   rw[kyA,J_] at ky;rw[KVs];exact⟨BF I d x _ ky.1 h1 r1,Eu I ds xr _ ky.2 h2 r2⟩
end
end
section
variable {prog:x_}{w:I_}{E:b_->c_->Prop}
mutual
noncomputable def hD:D->Int
 | .int i=>hashInt i
 | .tup ds=>reduceHash (tupleHashOf (hDs ds))
 | _=>0
noncomputable def hDs:List D->List Int
 | []=>[]
 | d::ds=>hD d::hDs ds
end
mutual
theorem E3:∀(d:D) (u:b_) (A:SH) (s:c_) (Q:Int->c_->Prop),KV s.heap d u->A.units+dep d < S8->(∀tk,Q (hD d) { s with toks:=tk })->r_ (t_ prog w) A (pyHash u) Q E s
 | .int i,u,A,s,Q,x,hu,q=>by
  rw[KV] at x;obtain⟨t,rfl⟩:=x;exact wpAny_pyHash_int (by have:=q (s.toks+1);rw[hD] at this;exact this)
 | .tup ds,u,A,s,Q,x,hu,q=>by
  rw[KV] at x;obtain⟨a,o,ac,e,rfl,x1,x2,x3,x4⟩:=x;rw[dep] at hu;refine pyHash_slot (T:= "tuple") ⟨o,x1,x2⟩ Xf F.entry_tuple_hash (F.args_tuple_hash_1 _) (beq_builtin_none _) (.inr (by omega)) ?_;refine a_ (m:=tupleItemsOf (.ref a)) (wpAny_tupleItemsOf x1 x3 (a_ ?_));rw[←V4];refine Gg ds ac A.in1 s #[] _ x4 (by show A.units+1+_ < _;omega) λtk b hb=>?_
  refine a_ (m:=mkInt (tupleHashOf b.toList)) (wpAny_mkInt (d_ ⟨_,_,rfl,?_⟩));rw[hb];have:=q (tk+1);rw[hD] at this;exact this
 | .non,_,_,_,_,x,_,_=>by simp[KV] at x
 | .bl _,_,_,_,_,x,_,_=>by simp[KV] at x
 | .str _,_,_,_,_,x,_,_=>by simp[KV] at x
 | .lst _,_,_,_,_,x,_,_=>by simp[KV] at x
 | .exc _ _,_,_,_,_,x,_,_=>by simp[KV] at x
theorem Gg:∀(ds:List D) (us:List b_) (A:SH) (s:c_) (b:Array Int) (Q:Array Int->c_->Prop),KVs s.heap ds us->A.units+depA ds < S8->(∀tk b',b'.toList=b.toList++hDs ds->Q b' { s with toks:=tk }) →
  r_ (t_ prog w) A (forIn us b λx r=>do let h ←pyHash x;pure unit;pure (XU (r.push h))) Q E s
 | [],us,A,s,b,Q,x,hu,q=>by
  cases us with
  | cons u us=>simp[KVs] at x
  | nil =>
   rw[Vg];exact d_ (q s.toks b (by simp[hDs]))
 | d::ds,us,A,s,b,Q,x,hu,q=>by
  cases us with
  | nil=>simp[KVs] at x
  | cons u us =>
   rw[KVs] at x;rw[depA] at hu;rw[Ui];refine a_ (a_ (E3 d u A s _ x.1 (by omega) λtk=>a_ (d_ (d_ ?_))));exact Gg ds us A { s with toks:=tk } _ Q x.2 (by omega) λjg b' hb=>q jg b' (by rw[hb,hDs];simp)
end
mutual
theorem Bv:∀(d:D) (u:b_) (n:Nat) (A:SH) (s:c_) (Q:Bool->c_->Prop),KV s.heap d u->dep d<=n->Q true s->r_ (t_ prog w) A (eqIsQuiet n u) Q E s
 | .int i,u,n,A,s,Q,x,hn,q=>by
  rw[KV] at x;obtain⟨t,rfl⟩:=x;exact Ti (eqIsQuiet_byValue n rfl) q
 | .tup ds,u,n,A,s,Q,x,hn,q=>by
  rw[KV] at x;obtain⟨a,o,ac,e,rfl,x1,x2,x3,x4⟩:=x;rw[dep] at hn;obtain⟨n,rfl⟩:∃k,n=k+1:=⟨n - 1,by omega⟩;have hT:s.TypeIs (.ref a) "tuple":=⟨o,x1,x2⟩;unfold eqIsQuiet;refine a_ (V9 hT F.slot_tuple_eq.lookup ?_);refine a_ (m:=WY (.ref a) (.type "tuple")) (TR hT isSubtype_tuple_tuple ?_);simp only[UV,T7,if_false];refine a_ (SE x1 x3 (a_ ?_));show r_ _ _ (forIn ac.toArray _ _) _ _ s;rw[←V4];refine Cs ds ac n A s _ x4 (by omega) ?_;exact d_ q
 | .non,_,_,_,_,_,x,_,_=>by simp[KV] at x
 | .bl _,_,_,_,_,_,x,_,_=>by simp[KV] at x
 | .str _,_,_,_,_,_,x,_,_=>by simp[KV] at x
 | .lst _,_,_,_,_,_,x,_,_=>by simp[KV] at x
 | .exc _ _,_,_,_,_,_,x,_,_=>by simp[KV] at x
theorem Cs:∀(ds:List D) (us:List b_) (n:Nat) (A:SH) (s:c_) (Q:Option Bool×PUnit->c_->Prop),KVs s.heap ds us->depA ds<=n->Q (none,()) s →
  r_ (t_ prog w) A (forIn us (none,()) λy r=>do
   let __do_lift ←eqIsQuiet n y
   if(!__do_lift)=true then pure (Ww (some false,())) else do pure unit;pure (XU (none,()))) Q E s
 | [],us,n,A,s,Q,x,hn,q=>by
  cases us with
  | cons u us=>simp[KVs] at x
  | nil =>
   rw[Vg];exact d_ q
 | d::ds,us,n,A,s,Q,x,hn,q=>by
  cases us with
  | nil=>simp[KVs] at x
  | cons u us =>
   rw[KVs] at x;rw[depA] at hn;rw[Ui];refine a_ (a_ (Bv d u n A s _ x.1 (by omega) ?_));rw[if_neg (by simp)];refine a_ (d_ (d_ ?_));exact Cs ds us n A s Q x.2 (by omega) q
end
mutual
theorem Ao:∀(d:D) (u:b_) (n:Nat) (A:SH) (s:c_) (Q:Bool->c_->Prop),KV s.heap d u->dep d<=n->Q false s->r_ (t_ prog w) A (UF n u) Q E s
 | .int i,u,n,A,s,Q,x,hn,q=>by
  rw[KV] at x;obtain⟨t,rfl⟩:=x;unfold UF;exact d_ q
 | .tup ds,u,n,A,s,Q,x,hn,q=>by
  rw[KV] at x;obtain⟨a,o,ac,e,rfl,x1,x2,x3,x4⟩:=x;rw[dep] at hn;obtain⟨n,rfl⟩:∃k,n=k+1:=⟨n - 1,by omega⟩;have look:Vw (t_ prog w) s.heap (Xo (.ref a)) o.cls:=(Vw.ld x1).andThen .now;rw[x2] at look;unfold UF;refine a_ (look.here ?_);dsimp only;rw[if_pos (by decide)];refine a_ (d_ ?_);simp only[UV,T7,if_false];refine a_ (SE x1 x3 (a_ ?_));show r_ _ _ (forIn ac.toArray _ _) _ _ s;rw[←V4];refine Dg ds ac n A s _ x4 (by omega) ?_;exact d_ q
 | .non,_,_,_,_,_,x,_,_=>by simp[KV] at x
 | .bl _,_,_,_,_,_,x,_,_=>by simp[KV] at x
 | .str _,_,_,_,_,_,x,_,_=>by simp[KV] at x
 | .lst _,_,_,_,_,_,x,_,_=>by simp[KV] at x
 | .exc _ _,_,_,_,_,_,x,_,_=>by simp[KV] at x
theorem Dg:∀(ds:List D) (us:List b_) (n:Nat) (A:SH) (s:c_) (Q:Option Bool×PUnit->c_->Prop),KVs s.heap ds us->depA ds<=n->Q (none,()) s →
  r_ (t_ prog w) A (forIn us (none,()) λy r=>do
   let __do_lift ←UF n y
   if __do_lift=true then pure (Ww (some true,())) else do pure unit;pure (XU (none,()))) Q E s
 | [],us,n,A,s,Q,x,hn,q=>by
  cases us with
  | cons u us=>simp[KVs] at x
  | nil =>
   rw[Vg];exact d_ q
 | d::ds,us,n,A,s,Q,x,hn,q=>by
  cases us with
  | nil=>simp[KVs] at x
  | cons u us =>
   rw[KVs] at x;rw[depA] at hn;rw[Ui];refine a_ (a_ (Ao d u n A s _ x.1 (by omega) ?_));rw[if_neg l_];refine a_ (d_ (d_ ?_));exact Dg ds us n A s Q x.2 (by omega) q
end
mutual
theorem Hc:∀(d:D) (u:b_) (n:Nat) (A:SH) (s:c_) (Q:Bool->c_->Prop),KV s.heap d u->dep d<=n->Q true s->r_ (t_ prog w) A (Vz n u) Q E s
 | .int i,u,n,A,s,Q,x,hn,q=>by
  rw[KV] at x;obtain⟨t,rfl⟩:=x;unfold Vz;exact d_ q
 | .tup ds,u,n,A,s,Q,x,hn,q=>by
  rw[KV] at x;obtain⟨a,o,ac,e,rfl,x1,x2,x3,x4⟩:=x;rw[dep] at hn;obtain⟨n,rfl⟩:∃k,n=k+1:=⟨n - 1,by omega⟩;have hT:s.TypeIs (.ref a) "tuple":=⟨o,x1,x2⟩;unfold Vz;refine a_ (V9 hT Xf.lookup ?_);refine a_ (m:=seqItems? (.ref a)) (SE x1 x3 (a_ ?_));show r_ _ _ (forIn ac.toArray _ _) _ _ s;rw[←V4];refine F8 ds ac n A s _ x4 (by omega) ?_;exact d_ q
 | .non,_,_,_,_,_,x,_,_=>by simp[KV] at x
 | .bl _,_,_,_,_,_,x,_,_=>by simp[KV] at x
 | .str _,_,_,_,_,_,x,_,_=>by simp[KV] at x
 | .lst _,_,_,_,_,_,x,_,_=>by simp[KV] at x
 | .exc _ _,_,_,_,_,_,x,_,_=>by simp[KV] at x
theorem F8:∀(ds:List D) (us:List b_) (n:Nat) (A:SH) (s:c_) (Q:Option Bool×PUnit->c_->Prop),KVs s.heap ds us->depA ds<=n->Q (none,()) s →
  r_ (t_ prog w) A (forIn us (none,()) λy r=>do
   let __do_lift ←Vz n y
   if(!__do_lift)=true then pure (Ww (some false,())) else do pure unit;pure (XU (none,()))) Q E s
 | [],us,n,A,s,Q,x,hn,q=>by
  cases us with
  | cons u us=>simp[KVs] at x
  | nil =>
   rw[Vg];exact d_ q
 | d::ds,us,n,A,s,Q,x,hn,q=>by
  cases us with
  | nil=>simp[KVs] at x
  | cons u us =>
   rw[KVs] at x;rw[depA] at hn;rw[Ui];refine a_ (a_ (Hc d u n A s _ x.1 (by omega) ?_));rw[if_neg (by simp)];refine a_ (d_ (d_ ?_));exact F8 ds us n A s Q x.2 (by omega) q
end
end
end DL
namespace DL
open PySem PySem.W PySem.Spec PyProof.Rows L2 PySem.SetTable
section
variable{prog:x_}{w:I_}{E:b_->c_->Prop}{s:c_}
theorem TabOk.fits{t:Sz}(T:TabOk t es):t.fits es.size=true:=by
 have:=T.few;have:=T.sz;unfold Sz.fits Sz.fill;rw[T.nd];simp[T.sz];omega
theorem TabOk.gave{t:Sz}(T:TabOk t es):t.gaveWay=false:=by
 unfold gaveWay
 rcases T.few.2 with h | h | h
 ·rw[h];decide
 ·rw[h.1];decide
 ·rw[h.1];decide
theorem KP{o:Obj}{t:Sz}(ho:s.heap.get? a=some o)(eL:o.data=.set es ep t)(T:TabOk t es){x:b_}{h:Int}(h9:∀i (hi:i < es.size),∃b,es[i].2=.ref b)(eq:∀i (hi:i < es.size),es[i].1=h->PySem.SeqAt.EqAt A s es[i].2 x (eqf i))(seen:t.led=false->∀Q:Bool->c_->Prop,Q false s->r_ (t_ prog w) A (UG x ((es.filter (·.1 == h)).toList.map (·.2))) Q E s){K:Nat}(hK:sl t.mask h K∉t.place)(hk:∀k,k < K->sl t.mask h k∈t.place)(dE:K < 10*(t.mask+14)){Q:SetFound->c_->Prop}(lv:∀i (hi:i < es.size),es[i].1=h->eqf i=true->Q (.there none) s)(free:(∀i (hi:i < es.size),es[i].1=h->eqf i=false)->Q (.free (sl t.mask h K) false) s):
  ∀(f k:Nat) (bX:Option Probe),k<=K->K - k < f->bX.getD (t.probeStart h)=pth t.mask h k->(∀bG,bG < k->∀j (hj:j < es.size) (bE:j < t.place.size),t.place[j]=sl t.mask h bG->es[j].1=h->eqf j=false) →
   r_ (t_ prog w) A (setSearchFrom a x h true f bX) Q E s:=by
 intro f
 induction f with
 | zero=>intro k bX h1 h2;omega
 | succ f ih =>
  intro k bX h1 h2 hs fF;unfold setSearchFrom;refine a_ (Sr ho eL T.fits ?_);dsimp only;rw[T.gave,if_neg l_]
  have pr:∀m,Vp t (hA es) h (10*X5 t.mask) (pth t.mask h k)=some m->t.probe (W.hashAt es) h (bX.getD (t.probeStart h))=some m:=λm e=>by
   rw[hs];exact e
  rcases Ex T hK hk (10*X5 t.mask) k h1 (by unfold X5;omega) with⟨k',i,hi,bw,a1,a2,a3,a4,a5,a6⟩ | ⟨a1,a2⟩
  ·have e:=pr _ a5
   change t.probe _ h _=_ at e
   have e':t.probe (λi=>(es[i]?.map (·.1)).getD 0) h (bX.getD (t.probeStart h))=some (.candidate (sl t.mask h k') i (pth t.mask h (k'+1))):=e;show r_ _ _ (match t.probe (λi=>(es[i]?.map (·.1)).getD 0) h (bX.getD (t.probeStart h)) with | some met=>_ | _=>_) _ _ _;rw[e'];dsimp only;obtain⟨b,eb⟩:=h9 i hi;have gi:es[i]?=some es[i]:=k_ hi;have pJ:t.slot (sl t.mask h k')=.live i:=by rw[←a3];exact DN T.ris bw
   have nC:=eq i hi a4;rw[eb] at nC;have ask:t.led=true\/t.led=false:=by cases t.led<;>simp
   rcases ask with led | led
   all_goals
    first
     | (rw[led,UV,if_neg l_])
     | (rw[led,Bool.not_false,if_pos rfl];refine a_ (seen led _ ?_);rw[if_neg l_])
    rw[gi];dsimp only;rw[eb];refine a_ (Sd (nC prog w _ _ (a_ (Sr ho eL T.fits ?_))));dsimp only;cases c:eqf i with
    | true =>
     rw[if_pos (by rfl)];exact d_ (lv i hi a4 c)
    | false =>
     rw[if_neg (by decide)];have sm:t.sameMemory t.moves t.mask=some true:=by unfold sameMemory;simp
     rw[sm];dsimp only;rw[if_pos rfl,pJ];dsimp only;rw[gi];dsimp only;rw[eb];refine a_ (wpAny_isSame_ref_self (a_ (d_ ?_)));rw[if_pos rfl];dsimp only;rw[if_neg l_];refine ih (k'+1) _ (by omega) (by omega) rfl λbG b1 j hj bE ej hh=>?_
     by_cases z1:bG < k
     ·exact fF bG z1 j hj bE ej hh
     ·by_cases z2:bG=k'
      ·have:j=i:=by
        rw[z2,←a3] at ej
        rcases UT j i with l | l | l
        ·have:=T.ris j i bE bw l;omega
        ·exact l
        ·have:=T.ris i j bw bE l;omega
       subst this;exact c
      ·exact absurd hh (a6 bG (by omega) (by omega) j hj bE ej)
  ·have e':t.probe (λi=>(es[i]?.map (·.1)).getD 0) h (bX.getD (t.probeStart h))=some (.empty (sl t.mask h K) none):=pr _ a1;show r_ _ _ (match t.probe (λi=>(es[i]?.map (·.1)).getD 0) h (bX.getD (t.probeStart h)) with | some met=>_ | _=>_) _ _ _;rw[e'];dsimp only;refine d_ (free λi hi hh=>?_);have bw:i < t.place.size:=by rw[T.sz];exact hi
   obtain⟨c,c1,c2⟩:=T.reach i hi bw;rw[hh] at c1 c2
   have cK:c < K:=by
    rcases UT c K with l | l | l
    ·exact l
    ·subst l;exact absurd (by rw[c1];exact TC bw) hK
    ·exact absurd (c2 K l) hK
   by_cases z:c < k
   ·exact fF c z i hi bw c1.symm hh
   ·exact absurd hh (a2 c (by omega) cK i hi bw c1.symm)
end
section
variable{prog:x_}{w:I_}{E:b_->c_->Prop}{s:c_}
def SetAt(h:RV)(a:i_)(led:Bool)(es:Array (Int×b_)):Prop:=∃o ep t,h.get? a=some o/\o.cls=.type "set"/\o.data=.set es ep t/\TabOk t es/\t.led=led
theorem Dt{o:Obj}{es':Array (Int×b_)}{t t':Sz}(ho:h.get? a=some o)(hd:o.data=.set es ep t):(h.update a (putSet es' t')).get? a=some { o with data:=.set es' (ep+1) t' }:=by
 have e:=putSet_of es' t' hd;have:=Sm (putSet es' t') ho (by rw[e];rfl);rw[e] at this;exact this
theorem NA{led:Bool}{h:Int}{Q:Bool->c_->Prop}(S:SetAt s.heap a led es)(few:(∀i (hi:i < es.size),es[i].1=h->eqf i=false)->es.size<=59)(h9:∀i (hi:i < es.size),∃b,es[i].2=.ref b)(eq:∀i (hi:i < es.size),es[i].1=h->PySem.SeqAt.EqAt A s es[i].2 (.ref b) (eqf i))(seen:∀Q:Bool->c_->Prop,Q false s->r_ (t_ prog w) A (UG (.ref b) ((es.filter (·.1 == h)).toList.map (·.2))) Q E s)(value:∀Q:Bool->c_->Prop,Q true s->r_ (t_ prog w) A (Vz 8 (.ref b)) Q E s)(old:∀i (hi:i < es.size),es[i].1=h->eqf i=true->Q false s)(new:(∀i (hi:i < es.size),es[i].1=h->eqf i=false)->∀h' es',SetAt h' a led es'->(∀e,e∈es'↔e=(h,.ref b)\/e∈es)->es'.size=es.size+1->KeptBut a s.heap h'->Q true { s with heap:=h' }):
  r_ (t_ prog w) A (setAddHashed a (.ref b) h) Q E s:=by
 have line:200<=A_:=by rw[Sy];decide
 obtain⟨o,ep,t,ho,hc,eL,T,tl⟩:=S;obtain⟨K,k1,k2,k3⟩:=T.free h;have fits:=T.fits;unfold setAddHashed;refine Sd ?_;unfold setAddHashedIn;refine a_ (Sr ho eL fits ?_);dsimp only;rw[if_neg (by simp[byScan,b_.scannable])];unfold setSearch;refine a_ (KP ho eL T h9 eq (λ_=>seen) k2 k3 k1 (λi hi hh ee=>?_) (λaX=>?_) 100000 0 none (Sh _) ?_ rfl λbG z=>by omega)
 ·exact d_ (old i hi hh ee)
 ·have few:=few aX;dsimp only;refine a_ (Sr ho eL fits ?_);dsimp only;obtain⟨p1,p2,p3,p4,p5,p6,p7,p8,p9,ly,nD⟩:=OB T (h:=h) (x:=.ref b) k2 k3;obtain⟨q,pK⟩:∃q,q=t.put (sl t.mask h K):=⟨_,rfl⟩;rw[←pK] at p1 p2 p3 p4 p5 p6 p7 p8 p9 ly nD ⊢;rw[p6,T.pl,if_pos rfl];refine a_ (value _ ?_);rw[if_pos rfl];have cM:(SA es q.2 (h,b_.ref b)).size=es.size+1:=Ab ly _;refine a_ (Xg ho eL ?_ (by rw[cM];omega));have g1:=Dt (es':=SA es q.2 (h,b_.ref b)) (t':=q.1) ho eL;have cN:KeptBut a s.heap (s.heap.update a (putSet (SA es q.2 (h,b_.ref b)) q.1)):=λc u ne e=>(O_ _ _ (R5 ne)).trans e
  have dW:∀e,e∈SA es q.2 (h,b_.ref b)↔e=(h,.ref b)\/e∈es:=λe=>EJ ly _ e
  obtain⟨h1,pL⟩:∃h1,h1=s.heap.update a (putSet (SA es q.2 (h,b_.ref b)) q.1):=⟨_,rfl⟩;rw[←pL] at g1 cN ⊢
  have fill:q.1.fill=es.size+1:=by
   unfold Sz.fill;rw[p1,p9,T.sz];rfl
  by_cases full:q.1.tooFull=true
  ·-- laid anew: five things,32 places
   have m7:(t.mask=7/\es.size+1=5)\/(t.mask=31/\es.size+1=19):=by
    unfold tooFull at full;rw[fill,p5] at full;simp only[ge_iff_le,decide_eq_true_eq] at full;have:=T.few;have:=T.sz
    rcases this with x
    rcases T.few.2 with m | m | m
    ·rw[m] at full;omega
    ·rw[m.1] at full;omega
    ·rw[m.1] at full;omega
   obtain⟨nm,Rn,sa,fw⟩:∃nm,Round nm/\sizeAbove (grown (es.size+1))=nm+1/\((nm=31/\es.size+1<=18)\/(nm=127/\es.size+1<=60)):=by
    rcases m7 with z | z
    ·exact⟨31,round31,by rw[z.2];decide,.inl ⟨rfl,by omega⟩⟩
    ·exact⟨127,round127,by rw[z.2];decide,.inr ⟨rfl,by omega⟩⟩
   rw[if_pos (by simp[full])];unfold setRelay
   have lA:q.1.fits (SA es q.2 (h,b_.ref b)).size=true:=by
    unfold Sz.fits;rw[fill,cM,p5,p9,T.sz]
    rcases m7 with z | z<;>rw[z.1]<;>simp<;>omega
   refine a_ (a_ (Sr (s:={ s with heap:=h1 }) g1 rfl lA ?_));dsimp only;rw[sa,if_neg (by omega)];obtain⟨t2,ce,l1,l2,l3,l4,l5,l6⟩:=Kj (es:=SA es q.2 (h,b_.ref b)) Rn (by rw[cM];exact fw) q.1.finger (q.1.movedTo nm) q.1.led
   have pM:q.1.relaid ((SA es q.2 (h,b_.ref b)).map (·.1)) (grown (es.size+1))=some (t2,ce):=by
    unfold relaid;rw[sa,p6,T.pl];exact l1
   rw[pM];refine a_ (Ti (a:=(ce.filterMap ((SA es q.2 (h,b_.ref b))[·]?),t2)) ?_ ?_)
   ·show(if((ce.filterMap ((SA es q.2 (h,b_.ref b))[·]?)).size != (SA es q.2 (h,b_.ref b)).size)=true then _ else pure _)=_;rw[l2,bne_self_eq_false,if_neg l_]
   ·dsimp only;refine Xg g1 rfl ?_ (by rw[l2,cM];omega);refine d_ (new aX _ _ ⟨_,_,t2,Dt g1 rfl,hc,rfl,l3,by rw[l5,p7,tl]⟩ (λe=>(l6 e).trans (dW e)) (by rw[l2,cM]) λc u ne e=>(O_ _ _ (R5 ne)).trans (cN c u ne e))
  ·rw[if_neg (by simp[full])];refine d_ (new aX h1 _ ⟨_,_,q.1,g1,hc,rfl,⟨p1,p2,p3,p4,?_,by rw[p6];exact T.pl,nD⟩,by rw[p7,tl]⟩ dW cM cN);unfold tooFull at full;rw[fill,p5] at full;simp only[ge_iff_le,decide_eq_true_eq] at full;have:=T.sz;rw[p9,p5];refine⟨by omega,?_⟩
   rcases T.few.2 with m | m | m
   ·exact .inl m
   ·refine .inr (.inl ⟨m.1,?_⟩);rw[m.1] at full;omega
   ·refine .inr (.inr ⟨m.1,?_⟩);rw[m.1] at full;omega
 ·rcases T.few.2 with m | m | m
  ·rw[m] at k1;omega
  ·rw[m.1] at k1;omega
  ·rw[m.1] at k1;omega
end
noncomputable def dstep(ag:List D)(d:D):List D:=if ag.any (λe=>deq e d)=true then ag else ag++[d]
noncomputable def dd(ds:List D):List D:=ds.foldl dstep []
theorem IS(ag:List D)(d:D):ag.length<=(dstep ag d).length:=by
 unfold dstep;split
 ·exact w_ _
 ·simp
theorem DP:∀(ds ag:List D),ag.length<=(ds.foldl dstep ag).length
 | [],ag=>w_ _
 | d::ds,ag=>y_ (IS ag d) (DP ds _)
theorem Od(ds:List D)(h:i < ds.length):dd (ds.take (i+1))=dstep (dd (ds.take i)) ds[i]:=by
 unfold dd;rw[Uq,VA,g_ h];rfl
theorem NB(ds:List D)(i:Nat):(dd (ds.take i)).length<=(dd ds).length:=by
 unfold dd
 conv=>rhs;rw[←Tf i ds,VA]
 exact DP _ _
theorem CD{d:D}:∀(ds ag:List D),d∈ds.foldl dstep ag->d∈ag\/d∈ds
 | [],ag,h=>.inl h
 | e::ds,ag,h=>by
  rcases CD ds _ h with h | h
  ·unfold dstep at h;split at h
   ·exact .inl h
   ·rcases P_.mp h with h | h
    ·exact .inl h
    ·exact .inr (by rw[s_.mp h];exact m_)
  ·exact .inr (j_ _ h)
theorem vE(h:d∈dd ds):d∈ds:=by
 rcases CD ds [] h with h | h
 ·cases h
 ·exact h
section
variable{H:Hp}{s0 s:c_}{prog:x_}{w:I_}{E:b_->c_->Prop}
def Stn(X:Cx)(H:Hp)(e:Int×b_)(d:D):Prop:=e.1=hD d/\∃x,Is X.K H d x/\RelV x e.2
def EsOk(X:Cx)(H:Hp)(es:Array (Int×b_))(L:List D):Prop:=es.size=L.length/\(∀e∈es,∃d∈L,Stn X H e d)/\∀d∈L,∃e∈es,Stn X H e d
noncomputable def isT:D->Bool
 | .tup _=>true
 | _=>false
theorem yq{x:V}(ht:isT d=true)(h:Is X.K H d x)(r:RelV x u):∃b,x=.ref b/\u=.ref b:=by
 cases d<;>simp[isT] at ht
 obtain⟨a,xs,rfl,h1,h2⟩:=sY h;cases r;exact⟨a,rfl,rfl⟩
theorem Stn.det(I:Inv X aa Z H s){e:Int×b_}{d':D}(dl:dep d < 1000)(pN:dep d' < 1000)(h:isT d=true)(h':isT d'=true)(x:Stn X H e d)(y:Stn X H e d'):d=d':=by
 obtain⟨_,v,a1,a2⟩:=x;obtain⟨_,v',b1,b2⟩:=y;obtain⟨b,rfl,e1⟩:=yq h a1 a2;obtain⟨b',rfl,e2⟩:=yq h' b1 b2;rw[e1] at e2;cases e2;exact wQ I dl pN a1 b1
theorem N3{x:b_}(hx:KV s.heap d x)(dx:dep d<=8):∀(ys:List b_) (Q:Bool->c_->Prop),(∀y∈ys,∃e,KV s.heap e y/\dep e<=8)->Q false s->r_ (t_ prog w) A (UG x ys) Q E s:=by
 intro ys Q hy q;unfold UG;refine a_ ?_
 have bq:∀(ys:List b_) (R:Option Bool×PUnit->c_->Prop) (body:b_->Option Bool×PUnit->Sem (ForInStep (Option Bool×PUnit))),(∀y∈ys,∀R':ForInStep (Option Bool×PUnit)->c_->Prop,R' (.yield (none,())) s->r_ (t_ prog w) A (body y (none,())) R' E s)->R (none,()) s →
   r_ (t_ prog w) A (forIn ys (none,()) body) R E s:=by
  intro ys R body hb r
  induction ys with
  | nil=>rw[Vg];exact d_ r
  | cons y ys ih =>
   rw[Ui];exact a_ (hb y m_ _ (ih λz hz=>hb z (j_ _ hz)))
 refine bq ys _ _ (λy pO R' r'=>?_) (d_ q);obtain⟨e,ky,ke⟩:=hy y pO;dsimp only;split
 all_goals
  split
  ·exact d_ r'
  ·refine a_ (Bv d _ 8 A s _ hx dx ?_);rw[if_neg (by simp)];refine a_ (Bv e _ 8 A s _ ky ke ?_);rw[if_neg (by simp)];refine a_ (Ao d _ 8 A s _ hx dx ?_);rw[if_neg l_];refine a_ (Ao e _ 8 A s _ ky ke ?_);rw[if_neg l_];exact d_ r'
end
section
variable{H:Hp}{s0 s:c_}{prog:x_}{w:I_}{E:b_->c_->Prop}
def Ext(s0 s:c_):Prop:=∃h tk,s={ s0 with heap:=h,toks:=tk }/\∀b o,s0.heap.get? b=some o->h.get? b=some o
theorem Ext.inv(I:Inv X aa Z H s0)(e:Ext s0 s):Inv X aa Z H s:=by
 obtain⟨h,tk,rfl,k⟩:=e;exact I.kept (t':=tk) k
theorem Ext.next(e:Ext s0 s)(k:∀b o,b < s0.heap.objs.size->s.heap.get? b=some o->h'.get? b=some o):Ext s0 { s with heap:=h',toks:=tk }:=by
 obtain⟨h,t,rfl,k0⟩:=e;exact⟨h',tk,rfl,λb o x=>k b o (E_ x) (k0 b o x)⟩
def SetOk(ds:List D):Prop:=cmAll ds=true/\ds.all kyB=true/\ds.all isT=true/\depA ds<=8/\(dd ds).length<=28
theorem SetAt.kept{led:Bool}(S:SetAt h a led es)(k:∀o,h.get? a=some o->h'.get? a=some o):SetAt h' a led es:=by
 obtain⟨o,ep,t,r1,r2⟩:=S;exact⟨o,ep,t,k _ r1,r2⟩
theorem Stn.up{J:Hp}(hJ:∀d x,Is X.K J d x->Is X.K H d x){e:Int×b_}{d:D}(h:Stn X J e d):Stn X H e d:=by
 obtain⟨h1,x,h2,h3⟩:=h;exact⟨h1,x,hJ _ _ h2,h3⟩
theorem Pu(I0:Inv X aa Z H s0){It:i_}(hS:s0.heap.objs.size<=S)(pP:s0.heap.objs.size<=It){P:Nat->b_->Prop}{St:Nat->RV->Prop}(W:Walks prog w A.in1 It fp [It] n P St)(nE:S∉fp)(hJ:∀d x,Is X.K J d x->Is X.K H d x)(ha:IsA X.K J ds zs)(ok:SetOk ds)(hn:n=ds.length)(hP:∀i v,P i v->∃x,zs[i]?=some x/\RelV x v)(hu:A.units+20 < S8){led:Bool}{R:Result->c_->Prop}:
  ∀(k i:Nat) (s:c_),n - i=k->i<=n->Ext s0 s->St i s.heap->(∃es,SetAt s.heap S led es/\EsOk X J es (dd (ds.take i))) →
   (∀s' es,Ext s0 s'->SetAt s'.heap S led es->EsOk X J es (dd ds)->R (.ok (.ret .none)) s') →
   T_ (t_ prog w) A (.builtin "set.update.loop" ⟨[.ref S,.ref It],[]⟩) R s:=by
 obtain⟨cm,ky,ti,dp,few⟩:=ok;have nF:S≠It:=λe=>nE (by rw[e];exact W.sub It m_)
 have nb:∀b,b < s0.heap.objs.size->b∉[It]:=λb hb h=>by
  rw[s_.mp h] at hb;exact absurd pP (Nat.not_le.mpr hb)
 have pQ:∀b,b < s0.heap.objs.size->b≠S:=λb hb h=>by
  rw[h] at hb;exact absurd hS (Nat.not_le.mpr hb)
 intro k
 induction k with
 | zero =>
  intro i s hk hi ex st eM r;obtain⟨es,s1,s2⟩:=eM;have:i=n:=by omega
  subst this;refine SG VT ?_;rw[Tu Tg _];refine a_ (m:=UN (.ref It)) (W.done s _ _ st λh' tk keep=>d_ ?_);rw[hn,Tj] at s2;exact r _ es (ex.next λb o hb x=>keep b o (nb b hb) x) (s1.kept λo x=>keep S o (by simpa using nF) x) s2
 | succ k ih =>
  intro i s hk hi ex st eM r;obtain⟨es,s1,s2⟩:=eM;have lt:i < ds.length:=by omega
  refine SG VT ?_;rw[Tu Tg _];refine a_ (m:=UN (.ref It)) (W.item i s _ _ (by omega) st λv h1 pR pv jf cN=>?_);obtain⟨x,e1,rv⟩:=hP i v pv;obtain⟨x',fg,hx⟩:=ha.get (g_ lt);rw[e1] at fg;cases fg;have dm:ds[i]∈ds:=Sf lt;have td:isT ds[i]=true:=n_.mp ti _ dm;have lB:dep ds[i]<=8:=y_ (t7 dm) dp;obtain⟨b,rfl,rfl⟩:=yq td hx rv;have lC:∀tk,Ext s0 { s with heap:=h1,toks:=tk }:=λtk=>ex.next λb o hb x=>cN b o (nb b hb) x
  have nG:SetAt h1 S led es:=s1.kept λo x=>cN S o (by simpa using nF) x
  have I1:=(lC pR).inv I0;have lD:=BF I1 _ _ _ (n_.mp ky _ dm) (hJ _ _ hx) rv;refine a_ (m:=Va [.ref b] (setAdd S (.ref b))) (Sd ?_);unfold setAdd;refine Sd (a_ (E3 _ _ _ _ _ lD (by show A.units+1+_ < _;omega) λtk=>?_));have I2:=(lC tk).inv I0
  have ch:∀k,∃d',∀hk:k < es.size,d'∈dd (ds.take i)/\Stn X J es[k] d':=λk=>by
   by_cases hk:k < es.size
   ·obtain⟨d',m,q⟩:=s2.2.1 es[k] (TC hk);exact⟨d',λ_=>⟨m,q⟩⟩
   ·exact⟨.non,λh=>absurd h hk⟩
  have fW:∀k (hk:k < es.size),(ch k).choose∈dd (ds.take i)/\Stn X J es[k] (ch k).choose:=λk hk=>(ch k).choose_spec hk
  have sub:∀d'∈dd (ds.take i),d'∈ds:=λd' h=>SQ (vE h)
  have pU:∀d'∈dd (ds.take i),cmB d' ds[i]=true:=λd' h=>n_.mp (n_.mp cm _ (sub d' h)) _ dm
  have fi:∀d'∈dd (ds.take i),isT d'=true:=λd' h=>n_.mp ti _ (sub d' h)
  have fK:∀d'∈dd (ds.take i),dep d'<=8:=λd' h=>y_ (t7 (sub d' h)) dp
  have pV:∀d'∈dd (ds.take i),∀e,Stn X J e d'->KV h1 d' e.2:=λd' h e q=>by
   obtain⟨_,y,q1,q2⟩:=q;exact BF I2 _ _ _ (n_.mp ky _ (sub d' h)) (hJ _ _ q1) q2
  have aX:(∀k (hk:k < es.size),es[k].1=hD ds[i]->deq (ch k).choose ds[i]=false)->(dd (ds.take i)).any (λe=>deq e ds[i])=false:=λhz=>by
   rw[VB];intro h;obtain⟨d',m,q⟩:=Sg.mp h;obtain⟨e,m1,q1⟩:=s2.2.2 d' m;obtain⟨k,hk,rfl⟩:=U0 m1;have same:=Stn.det I2 (by have:=fK _ (fW k hk).1;omega) (by have:=fK _ m;omega) (fi _ (fW k hk).1) (fi _ m) ((fW k hk).2.up hJ) (q1.up hJ);have pW:=xg _ _ (pU d' m) q;have:=hz k hk (by rw[q1.1,pW]);rw[same,q] at this;cases this
  have step:dd (ds.take (i+1))=dstep (dd (ds.take i)) ds[i]:=Od ds lt
  have cont:∀h2 es',KeptBut S h1 h2->SetAt h2 S led es'->EsOk X J es' (dd (ds.take (i+1)))->T_ (t_ prog w) A (.builtin "set.update.loop" ⟨[.ref S,.ref It],[]⟩) R { s with heap:=h2,toks:=tk }:=λh2 es' kb sa eo=>by
   refine ih (i+1) _ (by omega) (by omega) ((lC tk).next (tk:=tk) λb o hb x=>kb b o (pQ b hb) x) (W.frame _ _ _ jf λb hb o x=>kb b o (λe=>nE (e▸hb)) x) ⟨es',sa,eo⟩ r
  refine NA (s:={ s with heap:=h1,toks:=tk }) (led:=led) (es:=es) (eqf:=λk=>deq (ch k).choose ds[i]) nG (λhz=>?_) (λk hk=>?_) (λk hk _=>?_) (λQ q=>?_) (λQ q=>Hc _ _ 8 _ _ _ lD lB q) (λk hk hh ee=>?_) λhz h2 es' sa mem sz kb=>?_
  ·have l1:=NB ds (i+1);rw[step,dstep,if_neg (by rw[aX hz];exact l_),v_,UJ,←s2.1] at l1;omega
  ·obtain⟨m,_,y,q1,q2⟩:=fW k hk;obtain⟨b',_,e⟩:=yq (fi _ m) q1 q2;exact⟨b',e⟩
  ·obtain⟨m,_,y,q1,q2⟩:=fW k hk;exact(wv I2 8 A.in1 (by show A.units+1+8 < _;omega) (by decide) _ _ _ _ _ _ ⟨fK _ m,lB⟩ (hJ _ _ q1) (hJ _ _ hx) q2 rv).2.1
  ·refine N3 (s:={ s with heap:=h1,toks:=tk }) (d:=ds[i]) lD lB _ _ (λy hy=>?_) q;obtain⟨e,m,rfl⟩:=u_.mp hy;have m':e∈es:=(Array.mem_filter.mp (Wv.mp m)).1;obtain⟨d',m1,q1⟩:=s2.2.1 e m';exact⟨d',pV d' m1 e q1,fK d' m1⟩
  ·refine d_ ⟨SU Tg _,cont h1 es (λb o _ x=>x) nG ?_⟩;rw[step,dstep,if_pos (Sg.mpr ⟨_,(fW k hk).1,ee⟩)];exact s2
  ·refine d_ ⟨SU Tg _,cont h2 es' kb sa ?_⟩;rw[step,dstep,if_neg (by rw[aX hz];exact l_)];have own:Stn X J (hD ds[i],.ref b) ds[i]:=⟨rfl,_,hx,rv⟩;refine⟨by rw[sz,s2.1];simp,λe he=>?_,λd' cx=>?_⟩
   ·rcases(mem e).mp he with rfl | he
    ·exact⟨_,by simp,own⟩
    ·obtain⟨d',m,q⟩:=s2.2.1 e he;exact⟨d',Sk _ m,q⟩
   ·rcases P_.mp cx with h | h
    ·obtain⟨e,m,q⟩:=s2.2.2 d' h;exact⟨e,(mem e).mpr (.inr m),q⟩
    ·rw[s_.mp h];exact⟨_,(mem _).mpr (.inl rfl),own⟩
end
theorem FB:Manifest.owners.lookup (String.ofList ['r','o','t','a','r','e','t','i','_','t','e','s'].reverse)=some Manifest.sig_set_iterator:=by kernel_rfl
theorem wH:Slot "set_iterator" "__next__" "set_iterator.__next__":=.of (owner:= "set_iterator") (n:= "__next__") (by rw[typeLookup_type,Wb];kernel_rfl) (by decide +kernel) (by decide +kernel) (by decide +kernel) (by first | exact .inl (by decide +kernel) | exact .inr (by decide +kernel)) (by rw[isSubtype_type];kernel_rfl)
theorem FK:entryFor table "set_iterator.__next__"=some S1.«set_iterator.__next__»:=entryFor_of_tree (by kernel_rfl)
theorem DO(a:b_):argsOk "set_iterator.__next__" ⟨[a],[]⟩:=by
 unfold argsOk;rw[signature?_of (id:= "set_iterator.__next__") (n:=['_','_','t','x','e','n','_','_']) (o:=['r','o','t','a','r','e','t','i','_','t','e','s']) (by kernel_rfl) FB]
 kernel_rfl
theorem L7:entryFor table "set.__iter__"=some S1.«frozenset.__iter__»:=entryFor_alias (id':= "frozenset.__iter__") (by kernel_rfl) rfl (by decide +kernel) (by kernel_rfl)
theorem CZ{α:Type}:∀(l:List α) (i:Nat) (h:i < l.length),(l[i]::l.eraseIdx i).Perm l
 | a::l,0,h=>Wx _
 | a::l,i+1,h=>by
  rw[Ur,V5];exact(swap a _ _).trans ((CZ l i (by simpa using h)).cons a)
theorem Hg{α:Type}(next:Nat->Nat):∀(f k:Nat) (left:List α) (out:Array α),left.length=f->(VU.go next f k left out).toList.Perm (out.toList++left)
 | 0,k,left,out,h=>by
  rw[VU.go,Sw.mp h,SO]
 | f+1,k,left,out,h=>by
  have lt:next k % left.length < left.length:=Yf _ (by omega);rw[VU.go,g_ lt];dsimp only;refine(Hg next f (k+1) _ _ (by rw[List.length_eraseIdx_of_lt lt];omega)).trans ?_;rw[Array.toList_push,Tp];exact List.Perm.append_left _ (CZ left _ lt)
theorem OU{α:Type}(next:Nat->Nat)(xs:Array α):(VU next xs).toList.Perm xs.toList:=by
 have:=Hg next xs.size 0 xs.toList #[] (by simp);simpa[VU] using this
section
variable{prog:x_}{w:I_}{E:b_->c_->Prop}{s:c_}
noncomputable def byTx(w:I_):Bool:=w.params.followText "set-order"
noncomputable def walkOf(w:I_)(S:i_)(ep:Nat)(es:Array (Int×b_)):Array (Int×b_):=if byTx w=true then VU (w.params.setOrder S ep) es else es
theorem B3(w:I_)(S:i_)(ep:Nat)(es:Array (Int×b_)):(walkOf w S ep es).toList.Perm es.toList:=by
 unfold walkOf;split
 ·exact OU _ _
 ·exact Wx _
theorem y4(w:I_)(S:i_)(ep:Nat)(es:Array (Int×b_)):(walkOf w S ep es).size=es.size:=by
 have:=(B3 w S ep es).length_eq;simpa using this
noncomputable def slotAt(w:I_)(t:Sz)(k:Nat):Nat:=if byTx w=true then 0 else match k with
 | 0=>0
 | k+1=>t.place.getD k 0+1
def SitAt(h:RV)(I S:i_)(slot k n ep:Nat):Prop:=∃o,h.get? I=some o/\o.cls=.type "set_iterator"/\o.data=.fields #[.int slot 0,.int k 0,.ref S,.int n 0,.int ep 0]
def SetIs(h:RV)(S:i_)(es:Array (Int×b_))(ep:Nat)(t:Sz):Prop:=∃o,h.get? S=some o/\o.cls=.type "set"/\o.data=.set es ep t
theorem Ps{w:I_}{t:Sz}(T:TabOk t es)(hb:byTx w=false)(hk:k<=es.size):UK t.place (slotAt w t k)=k:=by
 unfold slotAt;rw[hb,if_neg l_];have sz:=T.sz;cases k with
 | zero =>
  dsimp only;obtain⟨b1,b2,b3⟩:=yz T.ris 0
  rcases Nat.eq_zero_or_pos (UK t.place 0) with h | h
  ·exact h
  ·have:=b2 0 (by omega) h;omega
 | succ k =>
  dsimp only;have lt:k < t.place.size:=by omega
  rw[Yk,dif_pos lt]
  change UK t.place (t.place[k]+1)=k+1
  obtain⟨b1,b2,b3⟩:=yz T.ris (t.place[k]+1)
  rcases UT (UK t.place (t.place[k]+1)) (k+1) with l | l | l
  ·have:=b3 k lt (by omega);omega
  ·exact l
  ·have h1:k+1 < t.place.size:=by omega
   have:=b2 (k+1) h1 l;have:=T.ris k (k+1) lt h1 (by omega);omega
theorem z9{Q:Bool->c_->Prop}(q:Q (byTx w) s):r_ (t_ prog w) A setsByText Q E s:=a_ (VV (d_ q))
theorem Di{t:Sz}(T:TabOk t es)(led:t.led=!byTx w)(hS:SetIs s.heap S es ep t)(hk:k<=es.size){Q:Option (b_×Nat)->c_->Prop}(q:Q ((walkOf w S ep es)[k]?.map λe=>(e.2,slotAt w t (k+1))) s):r_ (t_ prog w) A (Yg S (slotAt w t k) k ep) Q E s:=by
 obtain⟨o,ho,hc,hd⟩:=hS;unfold Yg;refine a_ (Sr ho hd T.fits ?_);dsimp only;refine a_ (z9 ?_);cases hb:byTx w with
 | true =>
  rw[if_pos rfl,bne_self_eq_false,if_neg l_];have z:∀k,slotAt w t k=0:=λk=>by unfold slotAt;rw[hb,if_pos rfl]
  rw[z];rw[z] at q;refine a_ ?_;unfold setWalk;refine a_ (Sr ho hd T.fits ?_);dsimp only;refine a_ (z9 ?_);rw[hb,if_pos rfl];refine a_ (VV (d_ (d_ ?_)));unfold walkOf at q;rw[hb,if_pos rfl] at q;exact q
 | false =>
  rw[if_neg l_];show r_ _ _ (if(!t.plain&&decide (es.size > 1))=true then _ else _) _ _ _;rw[T.pl,UV,We,if_neg l_];refine a_ ?_;show r_ _ _ (if(!t.led&&!es.isEmpty)=true then _ else _) _ _ _;rw[led,hb,Bool.not_false,UV,We,if_neg l_];refine d_ (d_ ?_);rw[Ps T hb hk];unfold walkOf at q;rw[hb,if_neg l_] at q;have sz:=T.sz;by_cases lt:k < es.size
  ·have lt':k < t.place.size:=by omega
   rw[k_ lt,k_ lt'];rw[k_ lt] at q;unfold slotAt at q;rw[hb,if_neg l_] at q;simp only[map_some,Yk,lt',dif_pos] at q;exact q
  ·rw[Tq (by omega)];rw[Tq (by omega)] at q;exact q
end
section
variable{prog:x_}{w:I_}{E:b_->c_->Prop}{s:c_}
theorem CV:Slot "set_iterator" "__iter__" "set_iterator.__iter__":=.of (owner:= "set_iterator") (n:= "__iter__") (by rw[typeLookup_type,Wb];kernel_rfl) (by decide +kernel) (by decide +kernel) (by decide +kernel) (by first | exact .inl (by decide +kernel) | exact .inr (by decide +kernel)) (by rw[isSubtype_type];kernel_rfl)
theorem MF:entryFor table "set_iterator.__iter__"=some S1.«dict_keyiterator.__iter__»:=entryFor_alias (id':= "dict_keyiterator.__iter__") (by kernel_rfl) rfl (by decide +kernel) (by kernel_rfl)
theorem PF(a:b_):argsOk "set_iterator.__iter__" ⟨[a],[]⟩:=by
 unfold argsOk;rw[signature?_of (id:= "set_iterator.__iter__") (n:=['_','_','r','e','t','i','_','_']) (o:=['r','o','t','a','r','e','t','i','_','t','e','s']) (by kernel_rfl) FB]
 kernel_rfl
theorem SitAt.type{I:i_}{slot:Nat}(h:SitAt s.heap I S slot k n ep):s.TypeIs (.ref I) "set_iterator":=by
 obtain⟨o,h1,h2,_⟩:=h;exact⟨o,h1,h2⟩
theorem SetIs.type{t:Sz}(h:SetIs s.heap S es ep t):s.TypeIs (.ref S) "set":=by
 obtain⟨o,h1,h2,_⟩:=h;exact⟨o,h1,h2⟩
theorem LU{t:Sz}(T:TabOk t es)(hS:SetIs s.heap S es ep t){Q:b_->c_->Prop}(q:Q (.ref s.heap.objs.size) { s with heap:=s.heap.push { cls:=.type "set_iterator", data:=.fields #[.int 0 0,.int 0 0,.ref S,.int es.size 0,.int ep 0] } }):r_ (t_ prog w) A (WR (.ref S)) Q E s:=by
 have hT:=hS.type;obtain⟨o,ho,hc,hd⟩:=hS;refine Xh hT F.slot_set_iter (Sl F.slot_set_iter hT L7 ?_ (F.args_set_iter_1 _));refine a_ (m:=slot0 "__iter__" ⟨[.ref S],[]⟩) (a_ (d_ (d_ ?_)));refine a_ (m:=S1.Frozenset.sizeOf S) (a_ (U_ ho hd T.fits (d_ ?_)));refine a_ (m:=setDrawn S) ?_;unfold setDrawn;refine a_ (Sr ho hd T.fits ?_);dsimp only;refine a_ (z9 (d_ ?_));have z:(!byTx w&&(!t.plain&&decide (es.size > 1)))=false:=by rw[T.pl];simp
 show r_ _ _ (if(!byTx w&&(!t.plain&&decide (es.size > 1)))=true then _ else _) _ _ _;rw[z,if_neg l_];refine a_ (d_ (a_ ?_));unfold setEpoch;refine a_ (Sr ho hd T.fits (d_ ?_));exact a_ (R6 (d_ ⟨_,rfl, "set_iterator", _,⟨_,z_ _ rfl,rfl⟩,wH.lookup,q⟩))
theorem OR(hh:A.handled=none){Q:Option b_->c_->Prop}(q:∀h',(∀b o,s.heap.get? b=some o->h'.get? b=some o)->Q none { s with heap:=h' }):
  r_ (t_ prog w) A (newExc (.type "StopIteration") [] >>= λe=>(raiseNew e:Sem PySem.Fin)) (λ_ _=>False) (λe s'=>r_ (t_ prog w) A (WY e (.type "StopIteration")) (λb fS=>b=true/\Q none fS) (λ_ _=>False) s') s:=by
 refine a_ ?_;unfold newExc newTuple;refine a_ (R6 (a_ (m:=Wo _ _) (Ti (a:=b_.none) (by first | rfl | (simp only[Wo];rfl)) (R6 ?_ (by size_fits)))) (by size_fits));unfold raiseNew;refine a_ (wpAny_handled ?_);rw[hh];refine a_ (d_ (wpAny_throw ?_));refine TR (T:= "StopIteration") (b:=true) ⟨_,z_ _ rfl,rfl⟩ Wq ⟨rfl,q _ λb o x=>?_⟩;exact f_ _ (f_ _ x)
theorem IQ{I:i_}{t:Sz}(T:TabOk t es)(led:t.led=!byTx w)(hI:SitAt s.heap I S (slotAt w t k) k es.size ep)(hS:SetIs s.heap S es ep t)(hk:k < es.size){Q:Option b_->c_->Prop}(q:∀v h',(walkOf w S ep es)[k]?.map (·.2)=some v->SitAt h' I S (slotAt w t (k+1)) (k+1) es.size ep->KeptBut I s.heap h'->Q (some v) { s with heap:=h' }):r_ (t_ prog w) A (UN (.ref I)) Q E s:=by
 have hT:=hI.type;obtain⟨o,ho,hc,hd⟩:=hI;obtain⟨oS,lE,pX,lF⟩:=id hS;unfold UN;refine a_ (T6 (Si (name:=Vl "__next__") hT wH (Sl wH hT FK ?_ (DO _))));refine a_ (m:=slotArgs "__next__" 0 ⟨[.ref I],[]⟩) (d_ ?_);refine a_ (wpAny_fieldsOf ho hd ?_);refine a_ (U_ lE lF T.fits ?_);rw[if_neg (by simp)];dsimp only;have lt:k < (walkOf w S ep es).size:=by rw[y4];exact hk
 refine a_ (m:=Yg S _ _ _) ?_;simp only[T4];refine Di T led hS (UW hk) ?_;rw[k_ lt,map_some];dsimp only;refine a_ (Tc ho hd (by simp) ?_);obtain⟨h1,e1⟩:∃h1,h1=s.heap.update I (VW (·.setIfInBounds 0 (Uv ((slotAt w t (k+1):Nat):Int)))):=⟨_,rfl⟩;have lG:=Sm (VW (·.setIfInBounds 0 (Uv ((slotAt w t (k+1):Nat):Int)))) ho (Tw (TJ hd _));have lI:=TJ hd (·.setIfInBounds 0 (Uv ((slotAt w t (k+1):Nat):Int)));have k1:KeptBut I s.heap h1:=λb o ne x=>by rw[e1];exact(O_ _ _ (R5 ne)).trans x
 rw[←e1] at lG ⊢;refine a_ (Tc lG lI (by simp) (d_ ⟨_,rfl,d_ (q _ _ (by rw[k_ lt];rfl) ⟨_,Sm _ lG (Tw (TJ lI _)),?_,?_⟩ λb o ne x=>(O_ _ _ (R5 ne)).trans (k1 b o ne x))⟩))
 ·exact((Vu ..).trans (Vu ..)).trans hc
 ·rw[TJ lI];simp[Uv]
theorem NM(hh:A.handled=none){I:i_}{t:Sz}(T:TabOk t es)(led:t.led=!byTx w)(hI:SitAt s.heap I S (slotAt w t es.size) es.size es.size ep)(hS:SetIs s.heap S es ep t){Q:Option b_->c_->Prop}(q:∀h',KeptBut I s.heap h'->Q none { s with heap:=h' }):r_ (t_ prog w) A (UN (.ref I)) Q E s:=by
 have hT:=hI.type;obtain⟨o,ho,hc,hd⟩:=hI;obtain⟨oS,lE,pX,lF⟩:=id hS;unfold UN;refine a_ (T6 (Si (name:=Vl "__next__") hT wH (Sl wH hT FK ?_ (DO _))));refine a_ (m:=slotArgs "__next__" 0 ⟨[.ref I],[]⟩) (d_ ?_);refine a_ (wpAny_fieldsOf ho hd ?_);refine a_ (U_ lE lF T.fits ?_);rw[if_neg (by simp)];dsimp only;refine a_ (m:=Yg S _ _ _) ?_;simp only[T4];refine Di T led hS (w_ _) ?_;rw[Tq (by rw[y4];exact w_ _),Option.map_none];dsimp only;refine a_ (Tc ho hd (by simp) ?_);refine Sa (OR (A:=A.in1) (s:={ s with heap:=_ }) (Q:=Q) hh λh' keep=>q h' λb o ne x=>keep b o ((O_ _ _ (R5 ne)).trans x)) (λ_ _ x=>x.elim) λe s' h=>?_
 refine a_ (Sa (wpAny_of_in1 h) (λb fS hb=>?_) λ_ _ x=>x.elim);obtain⟨rfl,hq⟩:=hb;exact d_ hq
theorem Nn(hh:A.handled=none){I:i_}(ne:S≠I){t:Sz}(T:TabOk t es)(led:t.led=!byTx w):
  Walks prog w A I [I,S] [I] es.size (λk v=>(walkOf w S ep es)[k]?.map (·.2)=some v) (λk h=>SitAt h I S (slotAt w t k) k es.size ep/\SetIs h S es ep t) where
 sub:=λb hb=>by
  rw[s_.mp hb];exact m_
 frame:=λk h h' st keep=>by
  obtain⟨⟨o,a1,a2⟩,⟨o',b1,b2⟩⟩:=st;exact⟨⟨o,keep I (by simp) o a1,a2⟩,⟨o',keep S (by simp) o' b1,b2⟩⟩
 item:=λk s Q E hk st q=>IQ T led st.1 st.2 hk λv h' e si kb=>by
  refine q v h' s.toks e ⟨si,?_⟩ λb o nb x=>kb b o (λz=>nb (by rw[z];simp)) x
  obtain⟨o',b1,b2⟩:=st.2;exact⟨o',kb S o' ne b1,b2⟩
 done:=λs Q E st q=>NM hh T led st.1 st.2 λh' kb=>q h' s.toks λb o nb x=>kb b o (λz=>nb (by rw[z];simp)) x
 self:=λk s Q E st q=>by
  have hT:=st.1.type;exact Xh hT CV (Sl CV hT MF (d_ ⟨_,rfl, "set_iterator", _,hT,wH.lookup,q⟩) (PF _))
end
section
variable{prog:x_}{w:I_}{E:b_->c_->Prop}{s:c_}
theorem Iy{xs:Array b_}(h:ItemsOf (λk v=>xs[k]?=some v) ag xs.size):ag=xs:=by
 refine Array.ext h.1 λi h1 h2=>?_
 have:=h.2 i ag[i] (k_ h1)
 change xs[i]?=some ag[i] at this
 rw[k_ h2] at this;exact Eq.symm (RY this)
theorem Lu{Q:Bool->c_->Prop}(hT:s.TypeIs (.ref S) "set")(q:Q false s):r_ (t_ prog w) A (listLengthHint (.ref S)) Q E s:=by
 unfold listLengthHint;refine a_ (V9 hT F.slot_set_len.lookup ?_);have sp:splitId "set.__len__"=some ("set", "__len__"):=by decide +kernel
 dsimp only;rw[sp];dsimp only;refine a_ (TR hT sub_set_self ?_);rw[if_neg (by decide)];exact a_ (W7 hT (d_ q))
theorem IZ(hh:A.handled=none){t:Sz}(T:TabOk t es)(led:t.led=!byTx w)(hS:SetIs s.heap S es ep t){Q:List b_->c_->Prop}(q:∀h' tk,(∀b o,s.heap.get? b=some o->h'.get? b=some o)->s.heap.objs.size<=h'.objs.size->Q ((walkOf w S ep es).toList.map (·.2)) { s with heap:=h',toks:=tk }):r_ (t_ prog w) A (Ye (.ref S)) Q E s:=by
 have line:64<=A_:=by rw[Sy];decide
 have few:es.size<=60:=by have:=T.few;have:=T.sz;omega
 have nI:S < s.heap.objs.size:=by
  obtain⟨o,ho,_⟩:=hS;exact E_ ho
 unfold Ye;refine a_ (wpAny_runValue (SG F.entry_proto_collect ?_));rw[Tu F.plain_proto_collect _];refine a_ (m:=newList []) (R6 (d_ ⟨SU Xi _,SG F.entry_list_iadd ?_⟩));rw[Tu Xi _];obtain⟨h1,e1⟩:∃h1,h1=s.heap.push { cls:=.type "list", data:=.seq ([]:List b_).toArray }:=⟨_,rfl⟩;have fo:h1.objs.size=s.heap.objs.size+1:=by rw[e1,Tt]
 have fL:∀b o,s.heap.get? b=some o->h1.get? b=some o:=λb o x=>by rw[e1];exact f_ _ x
 have nJ:h1.get? s.heap.objs.size=some { cls:=.type "list", data:=.seq ([]:List b_).toArray }:=by rw[e1];exact z_ _ rfl
 rw[←e1]
 have lJ:SetIs h1 S es ep t:=by
  obtain⟨o,ho,r⟩:=hS;exact⟨o,fL _ _ ho,r⟩
 have fO:s.heap.objs.size≠S:=Vk nI;show r_ _ A.in1 (listExtendWith (.ref s.heap.objs.size) (.ref S) (.ref s.heap.objs.size)) _ _ { s with heap:=h1 };unfold listExtendWith;refine a_ (W7 (s:={ s with heap:=h1 }) lJ.type ?_);rw[if_neg (by simp[S1.List.listSameRef,fO])];refine a_ (LU (s:={ s with heap:=h1 }) T lJ ?_);obtain⟨I,eI⟩:∃I,I=h1.objs.size:=⟨_,rfl⟩;obtain⟨h2,e2⟩:∃h2,h2=h1.push { cls:=.type "set_iterator", data:=.fields #[.int 0 0,.int 0 0,.ref S,.int es.size 0,.int ep 0] }:=⟨_,rfl⟩;have ic:∀b o,h1.get? b=some o->h2.get? b=some o:=λb o x=>by rw[e2];exact f_ _ x
 have nK:SitAt h2 I S (slotAt w t 0) 0 es.size ep:=⟨_,by rw[e2,eI];exact z_ _ rfl,rfl,by unfold slotAt;split<;>rfl⟩
 have nL:SetIs h2 S es ep t:=by
  obtain⟨o,ho,r⟩:=lJ;exact⟨o,ic _ _ ho,r⟩
 show r_ _ _ _ _ _ { s with heap:=h1.push _ };rw[←e2];rw[←eI];refine a_ (Sd (Lu (s:={ s with heap:=h2 }) nL.type ?_));rw[if_pos (by decide +kernel)];refine a_ (WW (a_ (m:=S1.List.listTouch (.ref s.heap.objs.size)) ?_));have kf:=ic _ _ nJ;refine a_ (m:=updateSeq s.heap.objs.size (·.push .none)) (Uc kf rfl ?_ (by simp) (by simp));have kh:=Sm (V1 (·.push b_.none)) kf rfl;refine Uc kh rfl ?_ (by show(#[b_.none]:Array b_).size<=_;simp;omega) (by simp);have ki:=Sm (V1 (·.pop)) kh rfl;obtain⟨h4,e4⟩:∃h4,h4=((h2.update s.heap.objs.size (V1 (·.push b_.none))).update s.heap.objs.size (V1 (·.pop))):=⟨_,rfl⟩;have cu:KeptBut s.heap.objs.size h2 h4:=λb o ne x=>by rw[e4];exact(O_ _ _ (R5 ne)).trans ((O_ _ _ (R5 ne)).trans x)
 rw[←e4] at ki;show r_ _ _ _ _ _ { s with heap:=RV.update (RV.update h2 _ _) _ _ };rw[←e4];have jj:s.heap.objs.size≠I:=by rw[eI,fo];exact R0 (UP _)
 have nM:S≠I:=by rw[eI,fo];exact R0 (UA nI)
 have W:=(Nn (prog:=prog) (w:=w) (A:=A.in1) (ep:=ep) (by exact hh) nM T led).toS;refine d_ ⟨SU F.plain_extend_loop _,codeAny_extend_loopS W (by omega) s.heap.objs.size (by simp[jj,fO]) _ es.size 0 _ _ _ rfl (Sh _) ?_ ki (ItemsOf.nil _) λs' ag c mv here it=>?_⟩
 ·obtain⟨o,a1,a2⟩:=nK;obtain⟨o',b1,b2⟩:=nL;exact⟨⟨o,cu _ _ (R5 jj) a1,a2⟩,⟨o',cu _ _ (R5 fO) b1,b2⟩⟩
 ·obtain⟨h',g',d',jg,kx⟩:=s';have eg:g'=s.gens:=mv.gens;have ed:d'=s.drawn:=mv.drawn;have eo:kx=s.os:=mv.os;subst eg;subst ed;subst eo;refine a_ (wpAny_load here (d_ ?_));have size:es.size=((walkOf w S ep es).map (·.2)).size:=by rw[Array.size_map,y4]
  have all:ag=(walkOf w S ep es).map (·.2):=Iy (by
   rw[←size];refine⟨it.1,λj v hj=>?_⟩;have:=it.2 j v hj;show((walkOf w S ep es).map (·.2))[j]?=some v;rw[Array.getElem?_map]
   exact this)
  have lt':s.heap.objs.size < h'.objs.size:=E_ here;have:=q h' jg (λb o x=>mv.heap b o (λhb=>?_) (cu b o (R0 (E_ x)) (ic _ _ (fL _ _ x)))) (UW lt')
  ·rw[all];simpa using this
  ·have lb:=E_ x
   rcases B_.mp hb with z | z
   ·exact R0 lb z
   ·rw[s_.mp z,eI,fo] at lb;exact absurd lb (Nat.not_lt.mpr (XE _))
end
section
variable{prog:x_}{w:I_}{E:b_->c_->Prop}{s:c_}
noncomputable def fresh0(w:I_):Obj:={ cls:=.type "set", dict:=none,data:=.set #[] 0 (.fresh 0 0 (!byTx w)) }
theorem K4(a:b_){Q:b_->c_->Prop}(q:Q (.ref s.heap.objs.size) { s with heap:=s.heap.push (fresh0 w) }):
  T_ (t_ prog w) A (.call (.builtin "set.__new__") ⟨[.type "set", a],[]⟩) (wants Q E) s:=by
 refine codeAny_of_tree (a_ (m:=checkBuiltinCall "set.__new__" ⟨[.type "set", a],[]⟩) (Ti (PySem.F.newCall_set_1 a) (d_ ⟨SU F.plain_set_new _,SG F.entry_set_new ?_⟩)));rw[Tu F.plain_set_new _];unfold S1.«set.__new__» newClass;have gY:=sub_set_self;obtain⟨hp,g,d,tk,os⟩:=s;dsimp only
 wp_walk
 refine VV (d_ (a_ (wpAny_alloc (d_ (d_ q)))))
theorem OY(w:I_):TabOk (.fresh 0 0 (!byTx w)) #[]:=by
 refine⟨rfl,λi j hi=>?_,rfl,λi hi=>?_,⟨Sh _,.inr (.inr ⟨rfl,Sh _⟩)⟩,rfl,λi hi=>?_⟩
 all_goals exact absurd hi (Wu _)
variable{H:Hp}
theorem L9(I0:Inv X aa Z H s)(hh:A.handled=none){l:i_}{af:List b_}(hl:s.heap.IsList l af.toArray)(hJ:∀d x,Is X.K J d x->Is X.K H d x)(ha:IsA X.K J ds zs)(hv:Vals zs af)(ok:SetOk ds)(hu:A.units+50 < S8){Q:b_->c_->Prop}(q:∀S s' es,Ext s s'->s.heap.objs.size<=S->SetAt s'.heap S (!byTx w) es->EsOk X J es (dd ds)->Q (.ref S) s'):r_ (t_ prog w) A (call (.type "set") [.ref l]) Q E s:=by
 obtain⟨c,tl,rn⟩:=Ul.mro;have pY:=Ul.made;have gY:=Ul.sub;refine XN (codeAny_of_tree (d_ ⟨WZ _ (by decide +kernel),SG F.entry_type_call ?_⟩));rw[SH.under_plain (weight_type_call_type "set" [.ref l] []) rfl];have h1:=Ul.notType;have h2:=Ul.canCreate;have rV:=PySem.F.typeCall_set_1 (.ref l)
 repeat any_goals first | assumption | wp_step
 refine Tl (K4 (w:=w) (.ref l) (E:=E) (Q:=λobj aA=>obj=.ref s.heap.objs.size/\aA={ s with heap:=s.heap.push (fresh0 w) }) ⟨rfl,rfl⟩) λr aA hr=>?_
 rcases r with e | fl
 ·exact hr
 cases fl with
 | ret obj =>
  obtain⟨rfl,rfl⟩:=hr;have hS:(s.heap.push (fresh0 w)).get? s.heap.objs.size=some (fresh0 w):=z_ _ rfl;have hT:c_.TypeIs { s with heap:=s.heap.push (fresh0 w) } (.ref s.heap.objs.size) "set":=⟨_,hS,rfl⟩;have mY:=Ul.init.lookup;have rW:=Ul.init.bind (.ref s.heap.objs.size)
  repeat any_goals first | assumption | wp_step
  refine Tl (U3 (R:=wants (λr eD=>r=.none/\∃es,Ext s eD/\SetAt eD.heap s.heap.objs.size (!byTx w) es/\EsOk X J es (dd ds)) E) Ul.init.plain F.entry_set_init (check_set_init_1 hT ?_)) λnN eD fq=>?_
  ·obtain⟨ol,nO,fV,nl,nP⟩:=hl;have nQ:l < s.heap.objs.size:=E_ nO;obtain⟨rp,lK,pZ,jk⟩:=ol;simp only at fV nP;subst fV;subst nP;have kj:(s.heap.push (fresh0 w)).get? l=some { cls:=.type "list", dict:=lK,data:=.seq af.toArray nl,slots:=jk }:=f_ _ nO;have rq:=PySem.F.sub_list_set;have rz:=PySem.F.sub_list_frozenset;have gW:(type "list" == type "dict")=false:=(by decide);have ec:(s.heap.push (fresh0 w)).IsList l af.toArray:=⟨_,kj,rfl,nl,rfl⟩;obtain⟨h1,e1⟩:∃h1,h1=s.heap.push (fresh0 w):=⟨_,rfl⟩;have fo:h1.objs.size=s.heap.objs.size+1:=by rw[e1,Tt]
   have fL:∀b o,s.heap.get? b=some o->h1.get? b=some o:=λb o x=>by rw[e1];exact f_ _ x
   rw[←e1] at hS kj ec;show r_ _ _ _ _ _ { s with heap:=s.heap.push (fresh0 w) };rw[←e1];have qa:h1.get? s.heap.objs.size=some { cls:=.type "set", dict:=none,data:=.set #[] 0 (.fresh 0 0 (!byTx w)) }:=hS;unfold S1.«set.__init__» noKeywords updateFrom;generalize hPI:WR=PI
   wp_walk
   subst hPI;refine S4 (s:={ s with heap:=h1 }) ec (a_ (wpAny_runValue ?_));have jj:l≠h1.objs.size:=by rw[fo];exact R0 (UA nQ)
   refine Pu (s0:=s) (led:=!byTx w) I0 (w_ _) (by rw[fo];exact XE _) (WX (by exact hh) h1.objs.size l jj af.toArray) ?_ hJ ha ok (by rw[p_,←hv.length,←ha.length]) (λi v hi=>?_) (by show A.units+1+1+20 < _;omega) _ 0 _ rfl (Sh _) ?_ ?_ ?_ λs' es ex sa eo=>?_
   ·rw[fo];intro hm
    rcases B_.mp hm with z | z
    ·exact absurd z (R0 (UP _))
    ·exact absurd (s_.mp z) (Vk nQ)
   ·have bw:af[i]?=some v:=by simpa using hi
    have li:i < zs.length:=by
     rw[hv.length]
     rcases UC i af.length with z | z
     ·exact z
     ·rw[TQ z] at bw;cases bw
    obtain⟨u,e3,e4⟩:=hv.get (g_ li);rw[bw] at e3;cases e3;exact⟨_,g_ li,e4⟩
   ·exact⟨_,s.toks,rfl,λb o x=>f_ _ (fL b o x)⟩
   ·exact⟨⟨_,z_ _ rfl,rfl,rfl⟩,ec.push _⟩
   ·refine⟨#[],⟨_,0,_,f_ _ qa,rfl,rfl,OY w,rfl⟩,rfl,λe he=>?_,λd hd=>?_⟩
    ·simp at he
    ·cases hd
   ·exact d_ (d_ ⟨rfl,es,ex,sa,eo⟩)
  ·rcases nN with e | lL
   ·exact fq
   ·cases lL with
    | ret r =>
     obtain⟨rfl,es,e1,e2,e3⟩:=fq
     repeat any_goals first | assumption | wp_step
     exact q _ _ es e1 (w_ _) e2 e3
    | _=>exact fq.elim
 | _=>exact hr.elim
end
theorem IsA.up{K:PySem.W.Frag}{J H:Hp}(h:∀d x,Is K J d x->Is K H d x):∀{ds:List D}{zs:List V},IsA K J ds zs->IsA K H ds zs
 | [],zs,a=>by rw[a.nil_inv];exact IsA.nil
 | d::ds,zs,a=>by
  obtain⟨x,r,rfl,h1,h2⟩:=a.cons_inv;exact IsA.cons (h _ _ h1) (IsA.up h h2)
section
variable{H:Hp}{s:c_}
theorem A9{α:Type}:∀(l m:List α),l.Nodup->(∀x∈l,x∈m)->m.length<=l.length->l.Perm m
 | [],m,_,_,h=>by rw[Sw.mp (Nat.le_zero.mp h)]
 | x::l,m,nd,h,len=>by
  obtain⟨a,b,rfl⟩:=W0 (h x m_);rw[SL] at nd
  have p:=A9 l (a++b) nd.2 (λy hy=>by
   have:=h y (j_ _ hy)
   rcases P_.mp this with z | z
   ·exact(Sk _ z)
   ·rcases B_.mp z with z | z
    ·subst z;exact absurd hy nd.1
    ·exact M_ _ z) (by simp at len ⊢;omega)
  exact(p.cons x).trans List.perm_middle.symm
theorem GK:∀(ds ag:List D),ag.Nodup->(ds.foldl dstep ag).Nodup
 | [],ag,h=>h
 | d::ds,ag,h=>by
  refine GK ds _ ?_;unfold dstep;split
  ·exact h
  ·rename_i no;rw[Xj];refine⟨h,by simp,λa ha b hb e=>?_⟩;rw[s_.mp hb] at e;subst e;exact no (Sg.mpr ⟨a,ha,vG a⟩)
theorem Hi(ds:List D):(dd ds).Nodup:=GK ds [] WE
theorem LV{l m:List D}(p:l.Perm m)(cm:cmAll l=true):sortD l=sortD m:=by
 refine zf _ _ ((wD l).trans (p.trans (wD m).symm)) (wJ l) (wJ m) λa ha b hb h1 h2=>?_
 have c:=n_.mp (n_.mp cm a ((wD l).mem_iff.mp ha)) b ((wD l).mem_iff.mp hb);refine xg a b c ?_;rw[wq a b c];unfold leD at h1 h2;rw[h1,h2];rfl
theorem EM{n:Nat}:∀{xs:List D},(∀x∈xs,dep x<=n)->depA xs<=n
 | [],_=>by rw[depA];exact Sh _
 | x::xs,h=>by
  rw[depA];exact Nat.max_le.mpr ⟨h x m_,EM λy hy=>h y (j_ _ hy)⟩
theorem DC{J:Hp}{M:List D}:∀(L:List (Int×b_)),(∀e∈L,∃d∈M,Stn X J e d)->∃ds zs,IsA X.K J ds zs/\Vals zs (L.map (·.2))/\ds.length=L.length/\(∀d∈ds,d∈M)/\∀e∈L,∃d∈ds,Stn X J e d
 | [],_=>⟨[],[],IsA.nil,.nil,rfl,λd hd=>(by cases hd),λe he=>(by cases he)⟩
 | e::L,h=>by
  obtain⟨ds,zs,a1,a2,a3,a4,a5⟩:=DC L λe he=>h e (j_ _ he)
  obtain⟨d,m,q⟩:=h e m_;obtain⟨_,x,q1,q2⟩:=id q;refine⟨d::ds,x::zs,IsA.cons q1 a1,.cons q2 a2,by simp[a3],λd' cx=>?_,λe' cL=>?_⟩
  ·rcases B_.mp cx with z | z
   ·rw[z];exact m
   ·exact a4 d' z
  ·rcases B_.mp cL with z | z
   ·rw[z];exact⟨d,m_,q⟩
   ·obtain⟨d',m',q'⟩:=a5 e' z;exact⟨d',j_ _ m',q'⟩
theorem Kn(hu:X.A.units+100 < S8)(hh:X.A.handled=none)(I:Inv X aa Z H s){p:i_}(hJ:∀d x,Is X.K J d x->Is X.K H d x)(hq:SqL X.K H p zs)(ha:IsA X.K J ds zs)(ok:SetOk ds)(kd:ds.all fstI=true\/ds.all fstT=true){Q:VK}(k:∀l dQ,IsA X.K J (sortD (dd ds)) dQ->H l=none->Q (.ref l) (upd H l (.lst dQ))):
  r_ (t_ X.prog X.w) X.A (call (.type "set") [.ref p]) (λv s'=>r_ (t_ X.prog X.w) X.A (call (.builtin "sorted") [v]) (EP X aa Z Q) X.xe s') X.xe s:=by
 obtain⟨ac,rv,t,hz⟩:=I.list hq;refine L9 I hh t.isList hJ ha rv ok (by omega) λS s' es ex le sa eo=>?_
 have I':=ex.inv I;obtain⟨cm,ky,ti,dp,few⟩:=ok;obtain⟨o,ep,tb,ho,hc,hd,T,led⟩:=sa
 obtain⟨eJ,dQ,a1,a2,a3,a4,a5⟩:=DC (X:=X) (J:=J) (M:=dd ds) (walkOf X.w S ep es).toList λe he=>eo.2.1 e (by
  have:=(B3 X.w S ep es).mem_iff.mp he
  simpa using this)
 have tt:∀d∈dd ds,isT d=true:=λd hd=>n_.mp ti _ (vE hd)
 have pm:(dd ds).Perm eJ:=by
  refine A9 _ _ (Hi ds) (λd hd=>?_) (by rw[a3,Ss,y4,eo.1];exact w_ _);obtain⟨e,m,q⟩:=eo.2.2 d hd;obtain⟨d',m',q'⟩:=a5 e ((B3 X.w S ep es).mem_iff.mpr (by simpa using m));have:=Stn.det I' (by have:=t7 (vE hd);omega) (by have:=t7 (vE (a4 d' m'));omega) (tt d hd) (tt d' (a4 d' m')) (q.up hJ) (q'.up hJ);rw[this];exact m'
 have sub:∀d∈eJ,d∈ds:=λd hd=>vE (a4 d hd)
 have ji:cmAll eJ=true:=n_.mpr λa qb=>n_.mpr λb qc=>n_.mp (n_.mp cm a (sub a qb)) b (sub b qc)
 have qe:IsA X.K H eJ dQ:=IsA.up hJ a1;refine FI hu I' qe a2 ⟨by have:=pm.length_eq;omega,ji,y_ (EM λx hx=>t7 (sub x hx)) (by omega),?_⟩ (λQ' q=>IZ (A:=X.A.in1) (by exact hh) T led ⟨o,ho,hc,hd⟩ q) λl q hp e hl=>k l _ ?_ hl
 ·rcases kd with z | z
  ·exact .inr (.inl (n_.mpr λx hx=>n_.mp z x (sub x hx)))
  ·exact .inr (.inr (n_.mpr λx hx=>n_.mp z x (sub x hx)))
 ·rw[←LV pm.symm ji,←e];exact a1.perm hp
end
section
variable{B:BB}{kr:Nat}
def rSS(X:Cx)(xs:List V)(H:Hp)(Q:VK):Prop:=∃(p:i_) (zs:List V) (ds:List D) (J:Hp),xs=[.ref p]/\SqL X.K H p zs/\IsA X.K J ds zs/\(∀d x,Is X.K J d x->Is X.K H d x)/\SetOk ds/\(ds.all fstI=true\/ds.all fstT=true) ∧
 ∀l dQ,IsA X.K J (sortD (dd ds)) dQ->H l=none->Q (.ref l) (upd H l (.lst dQ))
theorem P9{p:Pos}{t:TA}(hr:Room kr X.A)(hg:Gl X "sorted")(hm:X.mg "sorted"=none)(ei:Gl X "set")(dF:X.mg "set"=none)(ha:PA X [e] t)(he:e_ [e] X.env=(false,eval e X.env)::e_ [] X.env:=by rfl)(cL:e_ [.Call (.Name "set" p') [e] [] aE] X.env=(false,eval (.Call (.Name "set" p') [e] [] aE) X.env)::e_ [] X.env:=by rfl)(aC:∀pos,(R4 pos (e_ [] X.env)).any (·.1)=false:=by intros;rfl):
  PE X (.Call (.Name "sorted" p) [.Call (.Name "set" p') [e] [] aE] [] pos) (tCB (rSS X) t):=by
 intro aa s Z H Q I h;refine Sv (uu I hg hm boot_sorted (Tb ?_ cL (aC _)) (by decide) (by decide));rw[cL];refine Ug (Sv (uu I ei dF boot_set (N_ ?_ he (aC _)) (by decide) (by decide)));refine thn (ha aE aa s Z H _ I h) λus s1 ⟨vs,H1,I1,r1,p,zs,ds,J,e1,q1,q2,q3,q4,q5,q6⟩=>?_
 subst e1;obtain⟨u,rfl,ru⟩:=vals1 r1;cases ru;exact thn (Kn (hu100 hr) hr.hd I1 q3 q1 q2 q4 q5 q6) λv s2 q=>Uw q
noncomputable def setF(ds:List D):Option (List D):=match ds with
 | [.lst xs]=>if(cmAll xs=true/\xs.all kyB=true/\xs.all isT=true/\depA xs<=8/\(dd xs).length<=18)/\(xs.all fstI=true\/xs.all fstT=true) then some (sortD (dd xs)) else none
 | _=>none
theorem Os{p:Pos}(hr:Room kr X.A)(hg:Gl X "sorted")(hm:X.mg "sorted"=none)(ei:Gl X "set")(dF:X.mg "set"=none)(ha:AD X B [e] t)(he:e_ [e] X.env=(false,eval e X.env)::e_ [] X.env:=by rfl)(cL:e_ [.Call (.Name "set" p') [e] [] aE] X.env=(false,eval (.Call (.Name "set" p') [e] [] aE) X.env)::e_ [] X.env:=by rfl)(aC:∀pos,(R4 pos (e_ [] X.env)).any (·.1)=false:=by intros;rfl):
  EO X B (.Call (.Name "sorted" p) [.Call (.Name "set" p') [e] [] aE] [] pos) (fn1 setF t):=PE.imp (P9 hr hg hm ei dF ha he cL aC) (AO λds d e B G I H Z Γ xs Q r h k=>by
 unfold setF at e;split at e
 ·obtain⟨ok,rfl⟩:=tG e;obtain⟨x,rfl,hx⟩:=h.one;obtain⟨q,zs,rfl,h3,h4⟩:=sU hx;exact⟨q,zs,_,I,rfl,(Same.rdK r.iH h3).sq,h4,λd x hx=>hx.mono r.iH,⟨ok.1.1,ok.1.2.1,ok.1.2.2.1,ok.1.2.2.2.1,by have:=ok.1.2.2.2.2;omega⟩,ok.2,λl dQ hz hl=>k.new r hl hz⟩
 ·cases e)
end
end DL
namespace DL
open PySem PySem.W PySem.Spec PyProof.Rows L2
section
variable{B:BB}{g:M (List D)}
noncomputable def setY(i:Nat)(g:M (List D)):M Fl:=bnd g λd=>bnd (putS i (.fro d)) λ_=>ret .nx
theorem Ez{K:PySem.W.Frag}:∀E Z H,tS K B (setY i g) E Z H->tAsg (tO K B g) (gName i) E Z H:=λE Z H q=>by
 obtain⟨G,I,Γ,f,ae,r,e1,k⟩:=q;obtain⟨d1,Γ1,e2,e3⟩:=rK e1;obtain⟨d2,Γ2,e4,e5⟩:=rK e3;cases e5;obtain⟨hl,rfl⟩:=vy e4;exact⟨G,I,Γ,d1,Γ1,r,e2,λp xs H1 I1 r1 g1 h1 h2 h3 h4 h5=>k _ H1 _ ((r1.freeze h1 h2 h4).store (by rw[r1.len];exact hl) ⟨p,xs,rfl,tm,h3,h5.mono (tW h2 _)⟩ (λm=>nomatch m) (λ_ z=>nomatch z)) (g1.trans (growFreeze h2 h3))⟩
theorem L'{x:Str}(hN:X.N.Nodup)(he:EO X B e g)(hi:X.N[i]?=some x:=by rfl)(hx:locB X.env.scope x=true:=by rfl)(hs:SK e (some (.Name x aE)) pos.line X.env=pure false:=by rfl)(hf:fnB X x=true:=by rfl):SD X B (.Assign [.Name x aE] e pos) (setY i g):=PS.imp (xj hN hi (locI hx) he hs (fnI hf)) Ez
noncomputable def froS(j:Nat):M (List D):=λΓ=>match Γ[j]? with
 | some (some (.fro ds))=>some (ds,Γ)
 | _=>none
theorem EB(h:froS j Γ=some (ds,ae)):ae=Γ/\Γ[j]?=some (some (.fro ds)):=by
 unfold froS at h;split at h
 ·rename_i e;cases h;exact⟨rfl,e⟩
 ·cases h
noncomputable def cpS(i j:Nat):M Fl:=bnd (froS j) λd=>bnd (putS i (.fro d)) λ_=>ret .nx
theorem F6{x:Str}{p:Pos}(hN:X.N.Nodup)(he:PE X (.Name y p) (tVar j))(hi:X.N[i]?=some x:=by rfl)(hx:locB X.env.scope x=true:=by rfl)(hs:SK (.Name y p) (some (.Name x aE)) pos.line X.env=pure false:=by rfl)(hf:fnB X x=true:=by rfl):SD X B (.Assign [.Name x aE] (.Name y p) pos) (cpS i j):=PS.imp (xj hN hi (locI hx) he hs (fnI hf)) λE Z H q=>by
 obtain⟨G,I,Γ,f,ae,r,e1,k⟩:=q;obtain⟨d1,Γ1,e2,e3⟩:=rK e1;obtain⟨d2,Γ2,e4,e5⟩:=rK e3;cases e5;obtain⟨hl,rfl⟩:=vy e4;obtain⟨rfl,bp⟩:=EB e2;obtain⟨v,h1,h2⟩:=r.slot j _ bp;exact⟨v,h1,k _ H I (r.store (by rw[r.len];exact hl) h2 (λm=>nomatch m) (λ_ z=>nomatch z)) (Grow.refl _ _)⟩
noncomputable def retY(j:Nat):M Fl:=bnd (froS j) λd=>ret (.rt (.fro d))
theorem HQ{p:Pos}(he:PE X (.Name y p) (tVar j)):SD X B (.Return (some (.Name y p)) pos) (retY j):=PS.imp (y9 he) λE Z H q=>by
 obtain⟨G,I,Γ,f,ae,r,e1,k⟩:=q;obtain⟨d1,Γ1,e2,e3⟩:=rK e1;cases e3;obtain⟨rfl,bp⟩:=EB e2;obtain⟨v,h1,h2⟩:=r.slot j _ bp;exact⟨v,h1,k Z H I r (Grow.refl _ _) v h2⟩
end
section
variable{B:BB}{bz iter:RW}{N':List Str}{ts:M Bool}
theorem LZ(S:CompScope X.env.scope scope X.N N' m)(hc:X.calm=true)(hN:X.N.Nodup)(hi:ITD X B tg iter it)(hg:∀C s H ex,GD (cxC X scope N' C s H ex) (bUp m B) m tg az)(ht:∀C s H ex,TDs (cxC X scope N' C s H ex) (bUp m B) bj ts)(he:∀C s H ex,ED (cxC X scope N' C s H ex) (bUp m B) bz el)(bw:X.N[i]?=some y:=by rfl)(hy:X.env.scope.names.lookup y=some .local:=by rfl)(gR:SK (.ListComp bz [⟨tg,iter,bj,0⟩] scope pos) (some (.Name y py)) cV.line X.env=pure true:=by rfl)(hs:∀x,Sq iter X.env x=pure x:=by intros;rfl):SD X B (.Assign [.Name y py] (.ListComp bz [⟨tg,iter,bj,0⟩] scope pos) cV) (setY i (compO m it az ts el)):=PS.imp (CA (g:=tGD X.K (bUp m B) m az) (tt:=tTD X.K (bUp m B) ts) (te:=tD X.K (bUp m B) el) S hc hN bw hy hi hg ht he gR hs) λE Z H q=>by
 have z:=Ez E Z H q;exact B5 Z H _ z
end
end DL
namespace DL
open PySem
end DL
namespace DL
open PySem PySem.W PySem.Spec PyProof.Rows L2
section
variable{B:BB}{c:RW}{st:Sb}{ss body:List Sb}{g h:M Fl}
@[irreducible] def SI(X:Cx)(B:BB)(st:Sb)(g:M Fl):Prop:=SD X B st g
@[irreducible] def SIs(X:Cx)(B:BB)(ss:List Sb)(g:M Fl):Prop:=SDs X B ss g
theorem oI(k:SD X B st g):SI X B st g:=by unfold SI;exact k
theorem sS(k:SIs X B ss g):SDs X B ss g:=by unfold SIs at k;exact k
theorem sT:SIs X B [] (ret .nx):=by unfold SIs;exact NK
theorem sJ(k:SI X B st g):SIs X B [st] g:=by unfold SI at k;unfold SIs;exact GH k
theorem rj(k:SI X B st g)(t:SIs X B ss h):SIs X B (st::ss) (seqS g h):=by unfold SI at k;unfold SIs at t ⊢;exact JJ k t
theorem sR(hc:TD X B c tc)(ha:SIs X B sa g)(hb:SIs X B sb h):SI X B (.If c sa sb pos) (ifS tc g h):=by unfold SIs at ha hb;unfold SI;exact N2 hc ha hb
theorem t8{iter:RW}(hp:Xn (t_ X.prog X.w) X.A X.env X.xe)(hc:X.calm=true)(hi:ITD X B tg iter it)(hg:GD X B m tg az)(hb:SIs X B body g)(hs:∀x,Sq iter X.env x=pure x:=by intros;rfl):SI X B (.For tg iter body [] pos) (forS it az g):=by unfold SIs at hb;unfold SI;exact PR hp hc hi hg hb hs
theorem sO{x:Str}(hN:X.N.Nodup)(he:ED X B e ga)(hi:X.N[i]?=some x:=by rfl)(hx:locB X.env.scope x=true:=by rfl)(hs:SK e (some (.Name x aE)) pos.line X.env=pure false:=by rfl)(hf:fnB X x=true:=by rfl):SI X B (.Assign [.Name x aE] e pos) (setV i ga):=by unfold SI;exact ES hN he hi hx hs hf
end
end DL
namespace DL
open PySem PySem.W PySem.Spec PyProof.Rows L2
open PySem.SeqAt
open PySem.AutoSeq1 (wpAny_loadPart')
open PySem.MeetsSeq PySem.MeetsSeq2 PySem.MeetsSeq3
end DL
namespace DL
open PySem PySem.W PySem.Spec PyProof.Rows L2
noncomputable def altM{α:Type}(a b:M α):M α:=λΓ=>match a Γ with
 | some r=>some r
 | none=>b Γ
theorem Co{α:Type}{a b:M α}{x:α}(h:altM a b Γ=some (x,ae)):a Γ=some (x,ae)\/b Γ=some (x,ae):=by
 unfold altM at h;split at h
 ·rename_i e;cases h;exact .inl e
 ·exact .inr h
section
variable{B:BB}{st:Sb}
theorem yi{a b:M D}(h1:ED X B e a)(h2:ED X B e b):ED X B e (altM a b):=λaa s Z H Q I q=>by
 obtain⟨G,I',Γ,d,ae,r,e1,k⟩:=q
 rcases Co e1 with e1 | e1
 ·exact h1 aa s Z H Q I ⟨G,I',Γ,d,ae,r,e1,k⟩
 ·exact h2 aa s Z H Q I ⟨G,I',Γ,d,ae,r,e1,k⟩
theorem PU{a b:M Fl}(h1:SD X B st a)(h2:SD X B st b):SD X B st (altM a b):=λaa s Z H E I q=>by
 obtain⟨G,I',Γ,d,ae,r,e1,k⟩:=q
 rcases Co e1 with e1 | e1
 ·exact h1 aa s Z H E I ⟨G,I',Γ,d,ae,r,e1,k⟩
 ·exact h2 aa s Z H E I ⟨G,I',Γ,d,ae,r,e1,k⟩
end
end DL
namespace DL
open PySem PySem.W PySem.Spec PyProof.Rows L2
open PySem.SeqAt
open PySem.AutoSeq1 (wpAny_loadPart')
open PySem.MeetsSeq PySem.MeetsSeq2 PySem.MeetsSeq3
noncomputable def isStar:RW->Bool
 | .Starred ..=>true
 | _=>false
theorem Hw(h:isStar e=false):e_ (e::ao) env=(false,eval e env)::e_ ao env:=by
 cases e<;>first | rfl | (simp[isStar] at h)
theorem fI{B:BB}{es:List RW}{g:M D}(ha:ED X B e g)(hr:AD X B es t)(h:isStar e=false):AD X B (e::es) (consA g t):=OL ha hr (Hw h)
end DL
namespace DL
open PySem PySem.Spec PyProof.Rows L2
noncomputable def kAll(f:RW->Option (M D)):List RW->Option (M (List D))
 | []=>some nilA
 | e::es=>match f e with
  | some g=>match kAll f es with
   | some t=>some (consA g t)
   | none=>none
  | none=>none
noncomputable def kM:Nat->RW->Option (M D)
 | 0,_=>none
 | n+1,e=>match e with
  | .Constant (.int i) _ _=>some (ret (.int i))
  | .Constant (.bool b) _ _=>some (ret (.bl b))
  | .Constant .none _ _=>some (ret .non)
  | .Constant (.str x) _ _=>some (ret (.str x))
  | .UnaryOp .USub a _=>match kM n a with
   | some g=>some (un1 negI g)
   | none=>none
  | .BinOp a .Pow b _=>match kM n a with
   | some g=>match kM n b with
    | some h=>some (op2 powI g h)
    | none=>none
   | none=>none
  | .Tuple es _ _=>match kAll (kM n) es with
   | some t=>some (tupA t)
   | none=>none
  | .List es _=>match kAll (kM n) es with
   | some t=>some (frz (lstA t))
   | none=>none
  | _=>none
section
variable{B:BB}
theorem zm{f:RW->Option (M D)}(hf:∀e g,f e=some g->ED X B e g/\isStar e=false):∀(es:List RW) (t:M (List D)),kAll f es=some t->AD X B es t
 | [],t,h=>by cases h;exact gV
 | e::es,t,h=>by
  rw[kAll] at h;split at h
  ·rename_i g hg;split at h
   ·rename_i t' ht;cases h;obtain⟨h1,h2⟩:=hf e g hg;exact fI h1 (zm hf es t' ht) h2
   ·cases h
  ·cases h
theorem v4:∀(n:Nat) (e:RW) (g:M D),kM n e=some g->ED X B e g/\isStar e=false
 | 0,_,_,h=>by cases h
 | n+1,e,g,h=>by
  unfold kM at h;split at h
  ·cases h;exact⟨my,rfl⟩
  ·cases h;exact⟨xx,rfl⟩
  ·cases h;exact⟨uy,rfl⟩
  ·cases h;exact⟨tK,rfl⟩
  ·split at h
   ·rename_i g' hg;cases h;exact⟨zW (v4 n _ _ hg).1,rfl⟩
   ·cases h
  ·split at h
   ·rename_i g' hg;split at h
    ·rename_i g2 ig;cases h;exact⟨wZ (v4 n _ _ hg).1 (v4 n _ _ ig).1,rfl⟩
    ·cases h
   ·cases h
  ·split at h
   ·rename_i t ht;cases h;exact⟨tv (zm (v4 n) _ _ ht),rfl⟩
   ·cases h
  ·split at h
   ·rename_i t ht;cases h;exact⟨sM (sZ (zm (v4 n) _ _ ht)),rfl⟩
   ·cases h
  ·cases h
theorem tq{e1 e2 e3 e4:RW}{es:List RW}{g1 g2 g3 g4:M D}(h1:ED X B e1 g1)(h2:ED X B e2 g2)(h3:ED X B e3 g3)(h4:ED X B e4 g4)(hr:AD X B es t)(s1:isStar e1=false)(s2:isStar e2=false)(s3:isStar e3=false)(s4:isStar e4=false):AD X B (e1::e2::e3::e4::es) (consA g1 (consA g2 (consA g3 (consA g4 t)))):=
 fI h1 (fI h2 (fI h3 (fI h4 hr s4) s3) s2) s1
theorem ad_k{es:List RW}(h:kAll (kM 9) es=some t):AD X B es t:=zm (v4 9) es t h
end
end DL
namespace DL
open PySem PySem.W PySem.Spec PyProof.Rows L2 PySem.SetTable
section
variable{B:BB}{kr:Nat}
theorem EU:∀{ns:List Int}{ac:List b_},Vals (ns.map V.int) ac->W' ac ns
 | [],ac,h=>by cases h;exact .nil
 | n::ns,ac,h=>by
  cases h with
  | cons h1 h2=>obtain⟨t,rfl⟩:=h1;exact .cons _ _ (EU h2)
noncomputable def intsD:List D->Option (List Int)
 | []=>some []
 | .int i::ds=>match intsD ds with
  | some ns=>some (i::ns)
  | none=>none
 | _=>none
theorem Fn:∀{ds:List D}{ns:List Int},intsD ds=some ns->ds=ns.map D.int
 | [],ns,h=>by cases h;rfl
 | d::ds,ns,h=>by
  cases d<;>try cases h
  rename_i i;rw[intsD] at h;cases e:intsD ds with
  | none=>rw[e] at h;cases h
  | some ms=>rw[e] at h;cases h;rw[G_,←Fn e]
theorem CS:∀(ns:List Int),intsD (ns.map D.int)=some ns
 | []=>rfl
 | n::ns=>by rw[G_,intsD,CS ns]
theorem Do{K:PySem.W.Frag}{I:Hp}:∀{ns:List Int}{zs:List V},IsA K I (ns.map D.int) zs->zs=ns.map V.int
 | [],zs,h=>h.nil_inv
 | n::ns,zs,h=>by
  obtain⟨x,r,rfl,h1,h2⟩:=IsA.cons_inv h;rw[Do h2,sQ h1];rfl
variable{a b c c':RW}{gb gc gd:M D}
end
end DL
namespace DL
open PySem PySem.W PySem.Spec PyProof.Rows L2
section
variable{B:BB}{a b:RW}{gb:M D}{kr:Nat}
noncomputable def txt(i:Int):Str:=Vl (toString i)
theorem yM(d:Str):Str.empty++d=d:=by
 cases d with | mk a=>show(⟨#[]++a⟩:Str)=⟨a⟩;simp
end
section
variable{B:BB}
noncomputable def pkF(as:List D)(l:D):Option D:=match as,l with
 | [.int n],.lst ds=>if 0<=n/\n < 1000000 then ds[n.toNat]? else none
 | _,_=>none
noncomputable def ersF(as:List D)(ds:List D):Option (List D):=match as with
 | [.int n]=>some (ds.eraseIdx n.toNat)
 | _=>none
noncomputable def popAt(i:Nat)(t:M (List D)):M D:=mutS i (bnd t λas=>bnd (look i) λl=>bnd (lft (pkF as l)) λd=>bnd (wr i (ersF as)) λ_=>ret d)
theorem IsA.eraseIdx{K:PySem.W.Frag}{I:Hp}:∀{ds:List D}{xs:List V} (n:Nat),IsA K I ds xs->IsA K I (ds.eraseIdx n) (xs.eraseIdx n)
 | [],xs,n,h=>by rw[h.nil_inv];exact IsA.nil
 | d::ds,xs,n,h=>by
  obtain⟨x,r,rfl,h1,h2⟩:=h.cons_inv;cases n with
  | zero=>exact h2
  | succ n=>exact IsA.cons h1 (IsA.eraseIdx n h2)
theorem On{x:Str}(hv:PE X (.Name x p1) (tVar i))(ha:AD X B [e] t)(bJ:TZ (.Name x p1) "pop" X.env (eval (.Name x p1) X.env)=eval (.Name x p1) X.env:=by rfl)(cb:((R4 aB (e_ [e] X.env)).all (λx=>!x.1)&&(Wi aB (UX [] X.env)).all (λx=>x.1.isSome)&&decide ([e].length+([]:List Ux).length+(if([]:List Ux).isEmpty then 0 else 1) < 30))=true:=by rfl)(bK:(aU.endLine == aB.line)=true:=by rfl)(fe:e_ [e] X.env=(false,eval e X.env)::e_ [] X.env:=by rfl)(bn:(R4 aB (e_ [] X.env)).any (·.1)=false:=by rfl):
  ED X B (.Call (.Attribute (.Name x p1) "pop" aU) [e] [] aB) (popAt i t):=
 PE.imp (wN Ua PySem.F.slot_list_pop PySem.F.type_list_pop LJ hv ha bJ cb bK fe bn) λZ H Q q=>by
  obtain⟨G,I,Γ,d,ae,r,e1,k⟩:=q;obtain⟨hm,e1⟩:=wA e1;obtain⟨as,iZ,f1,f2⟩:=rK e1;obtain⟨p,xs,h1,h2⟩:=vU hm r;refine⟨_,h1,.inl ⟨rfl,xs,SqL.of h2⟩,G,I,Γ,as,iZ,r,f1,λvs H1 I1 r1 g1 hd=>?_⟩;obtain⟨l,Γ1,e2,e3⟩:=rK f2;obtain⟨d',Γ2,e4,e5⟩:=rK e3;obtain⟨u,aM,e6,e7⟩:=rK e5;obtain⟨e8,rfl⟩:=sW e4;clear e4;cases e7;obtain⟨rfl,p2,fU,ds,rfl,i1,i2,i3⟩:=z7 e2 r1;obtain⟨p',bV,cs,es',h4,h5,h6,h7,h8⟩:=yh e6 r1;have hp:p'=p:=by rw[h1] at h4;cases h4;rfl
  subst hp;have cG:p2=p':=by rw[h1] at i1;cases i1;rfl
  subst cG;rw[i2] at h5;cases h5;unfold pkF at e8;split at e8
  ·rename_i n eJ eq;cases eq
   have ok:0<=n/\n < 1000000:=by
    rcases Decidable.em (0<=n/\n < 1000000) with z | z
    ·exact z
    ·rw[if_neg z] at e8;cases e8
   rw[if_pos ok] at e8;obtain⟨y,rfl,hy⟩:=hd.one;rw[sQ hy];obtain⟨v,hv1,hv2⟩:=i3.get e8;cases h7;have lt:n.toNat < fU.length:=(o_.mp hv1).1;exact⟨p2,fU,n,n.toNat,v,rfl,rfl,i2,Xk (by decide) ok.1,W1 ok.2 (by decide),PySem.StrLaws.seqIndex_nonneg ok.1 (by omega),hv1,k v _ I1 (h8 _ (h6.eraseIdx _)) g1 hv2⟩
  ·cases e8
end
end DL
namespace DL
open PySem PySem.Spec PyProof.Rows L2 PySem.W
theorem objThere{P:x_}{w:I_}{H:Hp}:∀{o:HO},ObjOk P w H h a o->∃u,h.get? a=some u
 | .lst _,⟨_,_,_,_,e⟩=>⟨_,e⟩
 | .tup _,⟨_,_,_,_,e,_⟩=>⟨_,e⟩
 | .dK _,⟨_,_,_,_,_,_,_,e,_⟩=>⟨_,e⟩
 | .dT _,⟨_,_,_,_,_,_,_,e,_⟩=>⟨_,e⟩
 | .set _ _,⟨_,_,_,_,e,_⟩=>⟨_,e⟩
 | .ins _ _ _,⟨_,_,_,e,_⟩=>⟨_,e⟩
 | .own _,⟨_,e⟩=>⟨_,e⟩
 | .xd _,⟨_,⟨_,_,_,e,_⟩,_⟩=>⟨_,e⟩
 | .rng _ _,⟨_,_,_,e⟩=>⟨_,e⟩
 | .frz _ _,⟨e,_⟩=>⟨_,e⟩
 | .tbl _,x=>by first | exact⟨_,x⟩ | (obtain⟨_,e,_⟩:=x;exact⟨_,e⟩)
 | .met _ _,e=>⟨_,e⟩
 | .ext _,⟨_,e,_⟩=>e
def Lasts(h h':RV):Prop:=∀b o,h.get? b=some o->∃o',h'.get? b=some o'
theorem Lasts.none{h h':RV}(l:Lasts h h'){b:i_}(e:h'.get? b=none):h.get? b=none:=by
 cases z:h.get? b with
 | none=>rfl
 | some o=>obtain⟨_,q⟩:=l b o z;rw[e] at q;cases q
def Flies(H:Hp)(h₀ h:RV)(a C:i_):Prop:=∃oe vs a0,h.get? a=some oe/\oe.cls=.ref C/\oe.data=.fields vs/\vs[0]?=some a0/\H a=none/\h₀.get? a=none ∧
 (vs[1]?=some .none\/∃T oT ts,vs[1]?=some (.ref T)/\T≠a/\h.get? T=some oT/\oT.data=.fields ts/\3 < ts.size/\H T=none/\h₀.get? T=none)
theorem Flies.back{H:Hp}(F:Flies H h₀ h a C)(l:Lasts aJ h₀):Flies H aJ h a C:=by
 obtain⟨oe,vs,a0,e1,e2,e3,e4,e5,e6,e7⟩:=F;refine⟨oe,vs,a0,e1,e2,e3,e4,e5,l.none e6,e7.imp id ?_⟩;rintro⟨T,oT,ts,f1,f2,f3,f4,f5,f6,f7⟩;exact⟨T,oT,ts,f1,f2,f3,f4,f5,f6,l.none f7⟩
structure Turn(H:Hp)(h₀ h h':RV)(fr ch:List i_):Prop where
 new:∀b∈ch,H b=none/\h₀.get? b=none/\∃o vs,h.get? b=some o/\o.data=.fields vs
 keep:∀b o,h.get? b=some o->b∉ch->b∉fr->h'.get? b=some o
 slot:∀b o,h.get? b=some o->b∈fr->∃sl,h'.get? b=some { o with slots:=sl }
section
variable{P:x_}{w:I_}{H:Hp}{l:List Env}{a0:b_}
theorem xT(hl:h.FunFrames base l)(new:∀b∈ch,H b=none/\h₀.get? b=none/\∃o vs,h.get? b=some o/\o.data=.fields vs)(st:(Ve h (ch++frs l)).StaysIn h')(up:h.UpToSlots h'):Turn H h₀ h h' (frs l) ch:=
 ⟨new,λb o e n1 n2=>st b o (Xv _ e λm=>(P_.mp m).elim n1 n2),λb o e m=>up b o e (by
  obtain⟨_,o',e',d⟩:=hl.mem m;rw[e] at e';cases e'
  exact d)⟩
theorem Aq(hok:HOk P w H h)(th:Lasts h₀ h)(hl:h.FunFrames base l)(T:Turn H h₀ h h' (frs l) ch)(ha:a∈ch)(t:h'.TracedAtW (Ve h (ch++frs l)) a (.ref C) a0 fl):Flies H h₀ h' a C:=by
 obtain⟨oe,vs,T',oT,ts,e1,⟨e2,e3⟩,e4,e5,e6,e7,e8,e9,lM⟩:=t
 have q:H T'=none/\h₀.get? T'=none:=by
  by_cases m:T'∈ch
  ·exact⟨(T.new _ m).1,(T.new _ m).2.1⟩
  by_cases m2:T'∈frs l
  ·exfalso
   obtain⟨_,o,eo,d⟩:=hl.mem m2;obtain⟨sl,es⟩:=T.slot _ _ eo m2;rw[e8] at es;cases es;exact d ts e9
  have n:h.get? T'=none:=by
   cases z:h.get? T' with
   | none=>rfl
   | some o=>rw[Xv _ z λq=>(P_.mp q).elim m m2] at e6;cases e6
  refine⟨?_,th.none n⟩;cases z:H T' with
  | none=>rfl
  | some o=>obtain⟨u,z2⟩:=objThere (hok _ _ z);rw[n] at z2;cases z2
 exact⟨oe,vs,a0,e1,e2,e4,e3,(T.new a ha).1,(T.new a ha).2.1,.inr ⟨T',oT,ts,e5,e7,e8,e9,(D_.mp lM).1,q.1,q.2⟩⟩
theorem yQ(hl:h.FunFrames base l):h.FunFrames (Ve h (ch++frs l)) l:=funFrames_hide hl λenv he b hb=>M_ _ (VD.mpr ⟨env,he,hb⟩)
variable{M:Xr}{E:b_->c_->Prop}{s:c_}{Q:Unit->c_->Prop}{outer:List Env}{L:i_}
theorem Ed(fX:A.frames=some (env::outer))(hf:env.frame=some L)(hl:s.heap.FunFrames base (env::outer))(hok:HOk P w H s.heap)(th:Lasts h₀ s.heap)(F:Flies H h₀ s.heap a C)(k:∀h' ch a0 fl,a∈ch->Turn H h₀ s.heap h' (frs (env::outer)) ch->(Ve s.heap (ch++frs (env::outer))).StaysIn h'->h'.FunFrames (Ve s.heap (ch++frs (env::outer))) (env::outer)->h'.TracedAtW (Ve s.heap (ch++frs (env::outer))) a (.ref C) a0 fl->Q () { s with heap:=h' }):r_ M A (WF (.ref a) env) Q E s:=by
 obtain⟨oe,vs,a0,e1,e2,e3,e4,e5,e6,e7⟩:=F
 rcases e7 with e7 | ⟨T,oT,ts,f1,f2,f3,f4,f5,f6,f7⟩
 ·unfold WF;simp only[hf];refine a_ (Sj e1 e3 e7 ?_);rw[if_neg (by decide)];refine wpAny_entryW (base:=Ve s.heap ([a]++frs (env::outer))) fX (yQ hl) hf e1 (λb o q=>V6 _ q) (Vf _ (.head _)) e3 (D_.mp e7).1 e4 λh' hN=>?_
  obtain⟨k1,k2,k3,k4⟩:=hN;rw[e2] at k3;exact k h' [a] a0 _ (.head _) (xT hl (λb hb=>by rw[s_.mp hb];exact⟨e5,e6,_,_,e1,e3⟩) k1 k4) k1 k2 k3
 have new:∀b∈[a,T],H b=none/\h₀.get? b=none/\∃o vs,s.heap.get? b=some o/\o.data=.fields vs:=λb hb=>by
  rcases B_.mp hb with z | z
  ·rw[z];exact⟨e5,e6,_,_,e1,e3⟩
  ·rw[s_.mp z];exact⟨f6,f7,_,_,f3,f4⟩
 have f8:ts[3]?=some ts[3]:=k_ f5;unfold WF;simp only[hf];refine a_ (Sj e1 e3 f1 ?_);rw[if_pos (show(b_.ref T != b_.none)=true by simp)];refine a_ (Sj f3 f4 f8 ?_);by_cases hz:(ts[3] == Uv L)=true
 ·rw[if_pos hz];exact d_ (k s.heap [a,T] a0 ts[3] (.head _) (xT hl new (λb o q=>V6 _ q) (.refl _)) (λb o q=>V6 _ q) (yQ hl) ⟨oe,vs,T,oT,ts,e1,⟨e2,e4⟩,e3,f1,Vf _ (.tail _ (.head _)),f2,f3,f4,f8⟩)
 rw[if_neg hz];refine a_ (Tc f3 f4 f5 ?_);have cu:∀b,b≠T->(s.heap.update T (VW (·.setIfInBounds 3 b_.none))).get? b=s.heap.get? b:=λb hb=>O_ _ _ (R5 hb)
 have nR:∀b o,s.heap.get? b=some o->(∀vs,o.data≠.fields vs)->b≠T:=λb o q n z=>by
  rw[z,f3] at q;cases q;exact n ts f4
 refine wpAny_entryW (base:=Ve s.heap ([a,T]++frs (env::outer))) (oe:=oe) fX ((yQ hl).of_keeps λb o q n=>⟨o,(cu b (nR b o q n)).trans q,rfl⟩) hf ((cu a (R5 f2)).trans e1) (λb o q=>(cu b λz=>by have n:(Ve s.heap ([a,T]++frs (env::outer))).get? T=none:=Vf _ (.tail _ (.head _));rw[z,n] at q;cases q).trans (V6 _ q)) (Vf _ (.head _)) e3 (D_.mp f1).1 e4 λh' hN=>?_
 obtain⟨k1,k2,k3,k4⟩:=hN;rw[e2] at k3;exact k h' [a,T] a0 _ (.head _) (xT hl new k1 λb o q n=>k4 b o ((cu b (nR b o q n)).trans q) n) k1 k2 k3
theorem GB(fX:A.frames=some (env::outer))(hf:env.frame=some L)(hl:s.heap.FunFrames base (env::outer))(hok:HOk P w H s.heap)(th:Lasts h₀ s.heap)(F:Flies H h₀ s.heap a C)(k:∀h' ch,Turn H h₀ s.heap h' (frs (env::outer)) ch->Flies H h₀ h' a C->Q () { s with heap:=h' }):r_ M A (WF (.ref a) env) (λ_ aA=>r_ M A (Xq (.ref a) none) Q E aA) E s:=by
 refine Ed fX hf hl hok th F λh1 ch a0 fl ha T k1 k2 k3=>?_
 refine Wc k1 k2 k3 λh2 j1 j2 j3 j4=>?_
 have T2:Turn H h₀ s.heap h2 (frs (env::outer)) ch:=⟨T.new,λb o e n1 n2=>j1 b o (Xv _ e λm=>(P_.mp m).elim n1 n2),λb o e m=>by
  obtain⟨sl,q⟩:=T.slot b o e m;obtain⟨_,o',e',d⟩:=hl.mem m;rw[e] at e';cases e'
  exact⟨sl,j4 b _ q d⟩⟩
 exact k h2 ch T2 (Aq hok th hl T2 ha j3)
theorem MU(fX:A.frames=some (env::outer))(hf:env.frame=some L)(hl:s.heap.FunFrames base (env::outer))(hok:HOk P w H s.heap)(th:Lasts h₀ s.heap)(F:Flies H h₀ s.heap a C)(k:∀h' ch,Turn H h₀ s.heap h' (frs (env::outer)) ch->Flies H h₀ h' a C->Q () { s with heap:=h' }):r_ M A (leaving env (.ref a)) Q E s:=by
 unfold leaving;exact a_ (GB fX hf hl hok th F k)
end
noncomputable def CXX(P:x_)(w:I_):CXT:=λouter H s E e s'=>∃a C H',e=.ref a/\s'.os=s.os/\Ut s'.gens/\Un (frs outer) [] H H' s.heap s'.heap/\HOk P w H' s'.heap/\Flies H' s.heap s'.heap a C/\E (.ref C) none H'
def Xz(X:Cx)(C:i_)(Z:L2.St)(H:Hp):Prop:=∀aa s aJ a,Inv X aa Z H s->(∀b o,X.s₀.heap.get? b=some o->b∉X.ex->∃o',aJ.get? b=some o')->(∀p∈X.pn++aa,∃o,aJ.get? p.1=some o)->Lasts aJ s.heap->Flies H aJ s.heap a C->X.xe (.ref a) s
theorem Turn.hok{H:Hp}{s:c_}(T:Turn H h₀ s.heap h' (frs X.stack) ch)(I:Inv X aa Z H s):HOk X.prog X.w H h':=λb u e=>by
 have no:∀c v,H c=some v->c∉ch/\c∉frs X.stack:=λc v q=>⟨λm=>(by rw[(T.new c m).1] at q;cases q),λm=>(by rw[I.stkFree c m] at q;cases q)⟩
 refine(I.hok b u e).stay (λc v hc q=>?_) (λ_ q=>q) (λ_ _ q=>q)
 rcases hc with rfl | z
 ·exact T.keep c v q (no c u e).1 (no c u e).2
 ·exact T.keep c v q (no c _ z).1 (no c _ z).2
section
variable{P:x_}{w:I_}{K:PySem.W.Frag}{am:b_}{outer:List Env}{s:c_}{H:Hp}{E:XK}
theorem Jc(he:E (.ref C) none H'):Xz (cxOf (CXX P w) P w K mg base N qual scope f am A outer s H E) C Z H':=λaa s1 aJ a I c1 c2 c3 F=>by
 refine MU I.ok.frames rfl I.stack I.hok c3 F λh' ch T F'=>?_
 have nS:Lasts s.heap aJ:=λb o e=>c1 b o e (λz=>nomatch z)
 have cz:∀b o,s.heap.get? b=some o->b∉ch:=λb o e m=>by
  obtain⟨_,q⟩:=nS b o e;rw[(T.new b m).2.1] at q;cases q
 have qf:∀b o,s.heap.get? b=some o->b∉frs outer->b∉frs (U7 qual scope s.heap.objs.size f am::outer):=λb o e n m=>by
  rcases B_.mp (I.stkSub b m) with z | z
  ·exact absurd (E_ e) (by rw[z];exact SW _)
  ·exact n z
 refine⟨a,C,H',rfl,I.os,I.bare,⟨λb o e n hb _=>T.keep b o (I.base.keep b o e n hb (λz=>nomatch z)) (cz b o e) (qf b o e hb),λb o e n hb _=>?_,λb o e n _=>I.base.free b o e n (λz=>nomatch z),λb o e _=>?_,I.base.tups,I.base.frzs,?_⟩,T.hok I,F'.back nS,he⟩
 ·obtain⟨sl,e1⟩:=I.base.slot b o e n hb (λz=>nomatch z);obtain⟨ko,e2⟩:=T.slot b _ e1 (by unfold frs;rw[Uu];exact j_ _ hb);exact⟨ko,e2⟩
 ·obtain⟨o',e1⟩:=I.base.there b o e (λz=>nomatch z);by_cases m:b∈frs (U7 qual scope s.heap.objs.size f am::outer)
  ·obtain⟨sl,e2⟩:=T.slot b _ e1 m;exact⟨_,e2⟩
  ·exact⟨_,T.keep b _ e1 (cz b o e) m⟩
 ·exact I.base.tbls
end
noncomputable def tX(X:Cx)(B:BB)(cl:Nat->i_)(m:M Nat):TE:=λZ H _=>∃G I Γ C ae,Rep X.K B G I H Z Γ/\m Γ=some (C,ae)/\∀H' I',Rep X.K B G I' H' Z ae->Grow G I I'->Xz X (cl C) Z H'
noncomputable def tSX(X:Cx)(B:BB)(cl:Nat->i_)(m:M Nat):TS:=λ_ Z H=>∃G I Γ C ae,Rep X.K B G I H Z Γ/\m Γ=some (C,ae)/\∀ah H' I',Rep X.K B G I' H' ah ae->Grow G I I'->Xz X (cl C) ah H'
def XD(X:Cx)(B:BB)(cl:Nat->i_)(e:RW)(m:M Nat):Prop:=PE X e (tX X B cl m)
def SX(X:Cx)(B:BB)(cl:Nat->i_)(st:Sb)(m:M Nat):Prop:=PS X st (tSX X B cl m)
def SXs(X:Cx)(B:BB)(cl:Nat->i_)(st:List Sb)(m:M Nat):Prop:=PSs X st (tSX X B cl m)
noncomputable def orX(a b:M Nat):M Nat:=λΓ=>match a Γ with
 | some r=>some r
 | none=>b Γ
noncomputable def thenX(g:M Fl)(m:M Nat):M Nat:=bnd g λf=>match f with
 | .nx=>m
 | _=>λ_=>none
noncomputable def nvX:M Nat:=λ_=>none
theorem EW{B:BB}{cl:Nat->i_}{E:Ends}{H:Hp}(q:tSX X B cl nvX E Z H):False:=by obtain⟨_,_,_,_,_,_,e,_⟩:=q;cases e
section
variable{B:BB}{cl:Nat->i_}{st:Sb}{ao:List Sb}{g:M Fl}{m:M Nat}{es:List RW}
theorem J8:SX X B cl st nvX:=λ_ _ _ _ _ _ q=>(EW q).elim
theorem Ow:SXs X B cl ao nvX:=λ_ _ _ _ _ _ q=>(EW q).elim
theorem MJ(h:SX X B cl st m):SXs X B cl [st] m:=D' h
theorem Fk(h:SD X B st g)(h1:SX X B cl st m)(h2:SXs X B cl ao m'):SXs X B cl (st::ao) (orX m (thenX g m')):=by
 have hh:PS X st λD Z H=>tS X.K B g D Z H\/tSX X B cl m D Z H:=λaa s Z H D I q=>q.elim (h aa s Z H D I) (h1 aa s Z H D I)
 refine PSs.imp (Cj hh h2) λE Z H q=>?_
 obtain⟨G,I,Γ,C,ae,r,e1,k⟩:=q;unfold orX at e1;cases z:m Γ with
 | some y=>rw[z] at e1;cases e1;exact .inr ⟨G,I,Γ,C,ae,r,z,k⟩
 | none =>
  rw[z] at e1;obtain⟨f,Γ1,e2,e3⟩:=rK e1;refine .inl ⟨G,I,Γ,f,Γ1,r,e2,λdJ H1 I1 r1 g1=>?_⟩;cases f with
  | nx=>exact⟨G,I1,Γ1,C,ae,r1,e3,λah H' I' r' g'=>k ah H' I' r' (g1.trans g')⟩
  | rt _=>cases e3
  | bk=>cases e3
  | ct=>cases e3
noncomputable def ifX(c:M Bool)(a b:M Nat):M Nat:=bnd c λk=>if k then a else b
theorem L0{c:RW}(hc:TD X B c tc)(ha:SXs X B cl sa m)(hb:SXs X B cl sb m'):SX X B cl (.If c sa sb pos) (ifX tc m m'):=PS.imp (Dk hc ha hb) λE Z H q=>by
 obtain⟨G,I,Γ,C,ae,r,e1,k⟩:=q;obtain⟨d,Γ1,e2,e3⟩:=rK e1;refine⟨G,I,Γ,d,Γ1,r,e2,λH1 I1 r1 g1=>?_⟩;cases d with
 | true=>exact iteT ⟨G,I1,Γ1,C,ae,r1,e3,λah H' I' r' g'=>k ah H' I' r' (g1.trans g')⟩
 | false=>exact iteF ⟨G,I1,Γ1,C,ae,r1,e3,λah H' I' r' g'=>k ah H' I' r' (g1.trans g')⟩
theorem tSX.tX{E:Ends}{H:Hp}{Q:VK}(q:tSX X B cl m E Z H):DL.tX X B cl m Z H Q:=by
 obtain⟨G,I,Γ,C,ae,r,e1,k⟩:=q;exact⟨G,I,Γ,C,ae,r,e1,λH' I'=>k Z H' I'⟩
theorem t5(he:XD X B cl e m)(hs:SK e none pos.line X.env=pure false:=by rfl):SX X B cl (.Expr e pos) m:=PS.imp (zL he hs) λ_ _ _ q=>q.tX
theorem F9(he:XD X B cl e m):SX X B cl (.Return (some e) pos) m:=PS.imp (y9 he) λ_ _ _ q=>q.tX
theorem Ci{x:Str}(hN:X.N.Nodup)(he:XD X B cl e m)(hi:X.N[i]?=some x:=by rfl)(hx:locB X.env.scope x=true:=by rfl)(hs:SK e (some (.Name x aE)) pos.line X.env=pure false:=by rfl)(hf:fnB X x=true:=by rfl):SX X B cl (.Assign [.Name x aE] e pos) m:=PS.imp (xj hN hi (locI hx) he hs (fnI hf)) λ_ _ _ q=>q.tX
noncomputable def spE(K:PySem.W.Frag)(cl:Nat->i_)(gx:List D->Option Nat):Sp:=λvs H _ E=>∃I ds C,Same I H/\IsA K I ds vs/\gx ds=some C/\∀H',Same H H'->E (.ref (cl C)) none H'
noncomputable def fnX(gx:List D->Option Nat)(t:M (List D)):M Nat:=bnd t λds=>lft (gx ds)
theorem Ir{gx:List D->Option Nat}{x:Str}{p:Pos}(F:FnOk X.prog X.w X.K X.mg X.base (CXX X.prog X.w) k f fd ps (spE X.K cl gx))(hr:Room k X.A)(hg:Gl X x)(hm:X.mg x=some (.ref f))(hk:keepIn X.K (.ref f)=true)(hb:Binds X.K fd ps [])(ha:AD X B (e::es) t)(bC:(x == ("__debug__":Str))=false:=by decide)(he:e_ (e::es) X.env=(false,eval e X.env)::e_ es X.env:=by rfl)(aC:(R4 pos (e_ es X.env)).any (·.1)=false:=by rfl):
  XD X B cl (.Call (.Name x p) (e::es) [] pos) (fnX gx t):=by
 intro aa s Z H Q I h;obtain⟨G,J,Γ,C,ae,r,e1,kk⟩:=h;obtain⟨ds,Γ1,e2,e3⟩:=rK e1;obtain⟨e4,rfl⟩:=sW e3;refine Sv (wL I hg hm ?_ bC);refine callWith_K (h₀:=X.base) I.ok.mod.kin hk (thn (ha pos aa s Z H (λvs H1=>∃J1,Rep X.K B G J1 H1 Z ae/\Grow G J J1/\IsA X.K J1 ds vs) I ⟨G,J,Γ,ds,_,r,e2,λvs H1 J1 r1 g1 h1=>⟨J1,r1,g1,h1⟩⟩) λus s1 ⟨vs,H1,I1,rv,J1,r1,g1,h1⟩=>⟨I1.kIn,?_⟩) he aC;have sp:spE X.K cl gx vs H1 (λ_ _=>False) (λc _ H2=>c=.ref (cl C)/\Same H1 H2):=⟨J1,ds,C,r1.iH,h1,e4,λH' z=>⟨rfl,z⟩⟩;have hl:us.length=ps.length:=by rw[←rv.length];exact F.len _ _ _ _ sp
 have bb:=hb s1 us I1.kIn (by rw[SO];exact hl);rw[SO] at bb;refine XN (Tl (F.run X.A X.stack s1 H1 ⟨us,[]⟩ us vs _ _ hr I1.env0 bb rv sp) λrr s' hq=>?_);cases rr with
 | ok fl =>
  cases fl with
  | ret u=>obtain⟨_,_,_,_,_,_,_,z⟩:=hq;exact z.elim
  | next=>exact hq.elim
  | brk=>exact hq.elim
  | cont=>exact hq.elim
 | error ex =>
  obtain⟨a,C',H2,rfl,o1,o2,o3,o4,o5,o6,o7⟩:=hq;cases o6;have I2:Inv X aa Z H2 s':=I1.call' o1 o3 o4 o2 (λb z=>nomatch z);exact kk H2 J1 (r1.ext (Same.refl _) o7 (r1.iH.trans o7) λb o z=>.inl z) g1 aa s' s1.heap a I2 (λb o z n=>I1.base.there b o z n) (λq hq=>⟨_,(I1.pin q hq).1⟩) (λb o z=>o3.there b o z (λq=>nomatch q)) o5
end
noncomputable def fnE(n ar:Nat)(m:M Nat)(ds:List D):Option Nat:=if ds.length=ar then(m ((ds.map R.val).map some++F_ (n - ds.length) none)).map (·.1) else none
theorem Lk{K:PySem.W.Frag}{H:Hp}{vs:List V}(iH:Same I H)(h:IsA K I ds vs):Rep K (λi=>(L2.start N vs)[i]?) H I H (L2.start N vs) ((ds.map R.val).map some++F_ (N.length - ds.length) none) where
 iH:=iH
 gH:=Same.refl _
 len:=by unfold L2.start;simp[h.length]
 slot:=λi q e=>by
  have e':=wn e;obtain⟨d,e1,rfl⟩:=getMap e';obtain⟨v,e2,e3⟩:=h.get e1;refine⟨v,?_,e3⟩;unfold L2.start;rw[SM (by rw[q_];exact(o_.mp e2).1),C_,e2];rfl
 dist:=λi j q q' v e e' m m' s1 s2=>by
  obtain⟨d,_,rfl⟩:=getMap (wn e);cases m
 bor:=λi es e=>rfl
section
variable{P:x_}{w:I_}{K:PySem.W.Frag}
theorem uz{cl:Nat->i_}{x:Str}{st:Sb}(F:Fun K x qual st f fd)(S:FnScope N ps (defScope st))(m:M Nat)(hb:∀(am:b_) (A:SH) (outer:List Env) (s:c_) (H:Hp) (E:XK) (B:BB),Room k (A.deeper (U7 qual (defScope st) s.heap.objs.size f am)) →
   SXs (cxOf (CXX P w) P w K mg base N qual (defScope st) f am A outer s H E) B cl (defBody st) m):FnOk P w K mg base (CXX P w) (k+1) f fd ps (spE K cl (fnE N.length ps.length m)):=by
 obtain⟨oc,od,kV,bU,pm,an,am,ct,dL,rfl,lk,cp⟩:=F.ex
 have par:∀{ds:List D}{C:Nat},fnE N.length ps.length m ds=some C->ds.length=ps.length/\∃ae,m ((ds.map R.val).map some++F_ (N.length - ds.length) none)=some (C,ae):=λ{ds C} e=>by
  unfold fnE at e;by_cases hc:ds.length=ps.length
  ·rw[if_pos hc] at e;cases z:m ((ds.map R.val).map some++F_ (N.length - ds.length) none) with
   | none=>rw[z] at e;cases e
   | some y=>rw[z] at e;cases e;exact⟨hc,_,rfl⟩
  ·rw[if_neg hc] at e;cases e
 refine Hk lk cp S (λvs H Q E h=>?_) λA outer s H vs Q E hr h=>?_
 ·obtain⟨I,ds,C,_,h2,h3,_⟩:=h;rw[←h2.length];exact(par h3).1
 ·obtain⟨I,ds,C,iH,h2,h3,h4⟩:=h;obtain⟨hc,ae,e⟩:=par h3;exact⟨_,hb am A outer s H E (λi=>(L2.start N vs)[i]?) hr,H,I,_,C,ae,Lk iH h2,e,λah H' I' r' _=>Jc (h4 H' r'.gH)⟩
end
theorem O4{K:Wd}(X:K.In h)(q:excIn K C bB ni=true):
  ∃t n nm qn bs hd sn sub ab col dd k0 k1 k2 k3 k5 mN,h.get? C=some (excClassObj nm qn C n bs t hd sn sub ab col dd k0 k1 k2 k3 k5 ni)/\h.Ns n mN/\mN "__init__"=none/\OwnTail h bB t:=by
 unfold excIn at q;split at q
 case h_2=>cases q
 case h_1 dd cd sl ho =>
  split at q
  case h_2=>cases q
  case h_1 c1 t k0 k1 k2 k3 n k5 e1 e2 =>
   simp only[beq_iff_eq,J_,UD] at q;obtain⟨⟨⟨⟨⟨z1,z2⟩,z3⟩,z4⟩,z5⟩,z6⟩:=q;subst z1 z2;obtain⟨a1,a2,a3,a4,a5,a6,a7,a8,a9,b1,b2⟩:=cd;have e3:sl=#[k0,k1,k2,k3,some (.builtin n),k5]:=by rw[←e2]
   dsimp only at e1 z3 z5 z6;subst e1 z3 e3;exact⟨t,a4,a1,a5,a2,a6,a7,a8,a9,b1,dd,k0,k1,k2,k3,k5,_,X _ _ ho,.of_isNs (isNs_of_in X z5),nsMap_none_of_in X z5 z6,tail_of_in X z4⟩
noncomputable abbrev VEs:List b_:=[.type "ValueError", .type "Exception", .type "BaseException", .type "object"]
noncomputable def xcIn(K:Wd)(C:i_):Bool:=excIn K C VEs "ValueError.__new__"
theorem KI{P:x_}{w:I_}{H:Hp}(hok:HOk P w H h)(m:RV.MadeExcOf h h' a (.ref C) vs):Flies H h h' a C:=by
 obtain⟨t,e1,_,_⟩:=m.there;refine⟨_,_,_,e1,rfl,rfl,rfl,?_,m.new,.inl rfl⟩;cases z:H a with
 | none=>rfl
 | some o=>obtain⟨_,q⟩:=objThere (hok _ _ z);rw[m.new] at q;cases q
noncomputable def raX(C:Nat)(t:M (List D)):M Nat:=bnd t λds=>lft (if ds.length<=5 then some C else none)
section
variable{B:BB}{cl:Nat->i_}{es:List RW}
theorem yT{x:Str}{C:Nat}(hc:X.calm=true)(hg:Gl X x)(hm:X.mg x=some (.ref (cl C)))(hx:xcIn X.K (cl C)=true)(ha:AD X B (e::es) t)(bC:(x == ("__debug__":Str))=false:=by decide)(he:e_ (e::es) X.env=(false,eval e X.env)::e_ es X.env:=by rfl)(aC:(R4 aB (e_ es X.env)).any (·.1)=false:=by rfl):
  SX X B cl (.Raise (some (.Call (.Name x np) (e::es) [] aB)) none pos) (raX C t):=by
 intro aa s Z H D I h;obtain⟨G,J,Γ,C',ae,r,e1,kk⟩:=h;obtain⟨ds,Γ1,e2,e3⟩:=rK e1;obtain⟨e4,rfl⟩:=sW e3;obtain⟨hl,rfl⟩:=tG e4;obtain⟨tl,n,nm,qn,bs,hd,sn,sub,ab,col,dd,k0,k1,k2,k3,k5,mN,hC,hN,qg,T⟩:=O4 I.ok.mod.kin hx
 refine wpAny_Raise_call_subT (nm:=nm) (q:=qn) (N:=n) (bs:=bs) (bm:=tl) (hdct:=hd) (sn:=sn) (sub:=sub) (ab:=ab) (col:=col) (dd:=dd) (k0:=k0) (k1:=k1) (k2:=k2) (k3:=k3) (k5:=k5) PySem.F.excBase_ValueError (mN:=mN) (T.hasType PySem.F.excBase_ValueError.hasBase) (I.ok.hd hc)
  (by rw[he];show(false||(R4 aB (e_ es X.env)).any (·.1))=false;rw[aC];rfl) qg (wL I hg hm ⟨rfl,?_⟩ bC)
 have hh:=ha aB aa s Z H (λvs H1=>∃J1,Rep X.K B G J1 H1 Z ae/\Grow G J J1/\IsA X.K J1 ds vs) I ⟨G,J,Γ,ds,_,r,e2,λvs H1 J1 r1 g1 h1=>⟨J1,r1,g1,h1⟩⟩;rw[he] at hh ⊢;refine Wj (thn hh λus s2 ⟨vs,H1,I1,rv,J1,r1,g1,h1⟩=>⟨rfl,?_,I1.bk _ _ hC,hN.keeps I1.bk,T.keeps I1.bk,λh' a hM=>?_⟩)
 ·rw[←rv.length,←h1.length];exact y_ hl (by decide)
 ·exact kk Z H1 J1 r1 g1 aa _ s2.heap a (I1.kept (t':=s2.toks) hM.keeps) (λb o z n=>I1.base.there b o z n) (λq hq=>⟨_,(I1.pin q hq).1⟩) (λb o z=>⟨o,hM.keeps b o z⟩) (KI I1.hok hM)
theorem Turn.inv{H:Hp}{s:c_}(T:Turn H aJ s.heap h' (frs X.stack) ch)(I:Inv X aa Z H s)(c1:∀b o,X.s₀.heap.get? b=some o->b∉X.ex->∃o',aJ.get? b=some o')(c2:∀p∈X.pn++aa,∃o,aJ.get? p.1=some o):Inv X aa Z H { s with heap:=h' }:=by
 have rX:∀b∈ch,b∉frs X.stack:=λb hb m=>by
  obtain⟨_,_,o,vs,e,d⟩:=T.new b hb;obtain⟨_,o',e',d'⟩:=I.stack.mem m;rw[e] at e';cases e';exact d' vs d
 refine I.callN (g':=s.gens) (d':=s.drawn) (t':=s.toks) (ch:=ch) ⟨λb o e _ n2 n3=>T.keep b o e n3 n2,λb o e _ m _=>T.slot b o e m,λb o e n _=>n,λb o e n=>?_,λ_ _ z=>z,λ_ _ _ z=>z,λb q z=>by first | exact z | exact⟨#[],by rw[z];simp⟩⟩ (T.hok I) I.bare λb hb=>?_
 ·by_cases m:b∈frs X.stack
  ·obtain⟨sl,q⟩:=T.slot b o e m;exact⟨_,q⟩
  ·exact⟨_,T.keep b o e n m⟩
 ·obtain⟨n1,n2,o,vs,e,d⟩:=T.new b hb;refine⟨?_,λz=>?_,λy c hy z=>?_,λp hp z=>?_⟩
  ·by_cases m:b∈X.ex
   ·exact .inl m
   ·refine .inr ?_;cases q:X.s₀.heap.get? b with
    | none=>rfl
    | some o'=>obtain⟨_,q'⟩:=c1 b o' q m;rw[n2] at q';cases q'
  ·obtain⟨_,⟨o',es,ep,e',d',_⟩,_⟩:=I.loc;rw[←z,e] at e';cases e';rw[d] at d';cases d'
  ·obtain⟨v,o',e',d'⟩:=I.cell y c hy;rw[z,e] at e';cases e';rw[d] at d';cases d'
  ·obtain⟨_,q⟩:=c2 p hp;rw[z,n2] at q;cases q
theorem JV{P:x_}{w:I_}{H:Hp}{l:List Env}{M:Xr}{E:b_->c_->Prop}{s:c_}{Q:Unit->c_->Prop}(hl:s.heap.FunFrames base l)(hok:HOk P w H s.heap)(th:Lasts h₀ s.heap)(F:Flies H h₀ s.heap a C)(k:∀h' ch,Turn H h₀ s.heap h' (frs l) ch->Flies H h₀ h' a C->Q () { s with heap:=h' }):r_ M A (Xq (.ref a) none) Q E s:=by
 have F0:=F;obtain⟨oe,vs,a0,e1,e2,e3,e4,e5,e6,e7⟩:=F
 rcases e7 with e7 | ⟨T,oT,ts,f1,f2,f3,f4,f5,f6,f7⟩
 ·unfold Xq;refine a_ (Sj e1 e3 e7 ?_);rw[if_neg (by decide)];exact d_ (k s.heap [] ⟨λ_ z=>(nomatch z),λb o e _ _=>e,λb o e _=>⟨o.slots,e⟩⟩ F0)
 ·refine Wc (base:=Ve s.heap ([a,T]++frs l)) (l:=l) (cls:=.ref C) (a0:=a0) (fl:=ts[3]) (λb o q=>V6 _ q) (yQ hl) ⟨oe,vs,T,oT,ts,e1,⟨e2,e4⟩,e3,f1,Vf _ (.tail _ (.head _)),f2,f3,f4,k_ f5⟩ λh' k1 k2 k3 k4=>?_
  have T':=xT (H:=H) (h₀:=h₀) (ch:=[a,T]) hl (λb hb=>by
   rcases B_.mp hb with rfl | hb
   ·exact⟨e5,e6,_,_,e1,e3⟩
   ·rw[s_.mp hb];exact⟨f6,f7,_,_,f3,f4⟩) k1 (λb o e n=>⟨o.slots,k4 b o e n⟩)
  exact k h' [a,T] T' (Aq hok th hl T' (.head _) k3.at)
theorem Turn.lasts{H:Hp}{fr:List i_}(T:Turn H h₀ h h' fr ch)(l:Lasts h₀ h):Lasts h₀ h':=λb o e=>by
 obtain⟨o',e'⟩:=l b o e;by_cases m:b∈fr
 ·obtain⟨sl,q⟩:=T.slot b o' e' m;exact⟨_,q⟩
 ·exact⟨_,T.keep b o' e' (λz=>by rw[(T.new b z).2.1] at e;cases e) m⟩
end
noncomputable abbrev Cx.tried(X:Cx)(E:b_->c_->Prop)(pn:List (i_×Obj)):Cx:={ X with xe:=E,pn:=pn }
noncomputable abbrev Cx.suite(X:Cx)(a:i_):Cx:={ X with A:=X.A.mark (some (.ref a)),calm:=false,xe:=λ_ _=>False }
section
variable{ps:List (i_×Obj)}{H:Hp}{s:c_}{E:b_->c_->Prop}
theorem Lb(ok:X.Ok):(Cx.tried X E pn).Ok:=by
 cases ok;constructor<;>assumption
theorem Ov(ok:(Cx.tried X E pn).Ok):X.Ok:=by
 cases ok;constructor<;>assumption
theorem Fq(I:Inv X aa Z H s):Inv (Cx.tried X E (X.pn++aa)) [] Z H s:=
 ⟨Lb I.ok,I.os,I.bare,I.base,I.loc,I.cell,I.free,I.freeC,λp hp=>I.pin p (by rw[SO] at hp;exact hp),I.hok,I.len⟩
theorem xo(I:Inv (Cx.tried X E (X.pn++aa)) ps Z H s):Inv X aa Z H s:=
 ⟨Ov I.ok,I.os,I.bare,I.base,I.loc,I.cell,I.free,I.freeC,λp hp=>I.pin p (Sk _ hp),I.hok,I.len⟩
theorem Jz(ok:X.Ok):(Cx.suite X a).Ok:=by
 have hf:(X.A.mark (some (.ref a))).frames=some X.stack:=ok.frames;cases ok;constructor<;>first | assumption | exact λz=>nomatch z
theorem GL(I:Inv X aa Z H s):Inv (Cx.suite X a) aa Z H s:=
 ⟨Jz I.ok,I.os,I.bare,I.base,I.loc,I.cell,I.free,I.freeC,I.pin,I.hok,I.len⟩
theorem Pl(k:X.Ok)(I:Inv (Cx.suite X a) aa Z H s):Inv X aa Z H s:=
 ⟨k,I.os,I.bare,I.base,I.loc,I.cell,I.free,I.freeC,I.pin,I.hok,I.len⟩
end
section
variable{B:BB}{cl:Nat->i_}{c:RW}{es:List RW}{m:M Nat}{g:M D}{st:Sb}{ao:List Sb}{gs:M Fl}
@[irreducible] def XI(X:Cx)(B:BB)(cl:Nat->i_)(st:Sb)(m:M Nat):Prop:=SX X B cl st m
@[irreducible] def XIs(X:Cx)(B:BB)(cl:Nat->i_)(ss:List Sb)(m:M Nat):Prop:=SXs X B cl ss m
theorem tx(k:SX X B cl st m):XI X B cl st m:=by unfold XI;exact k
theorem um(k:XIs X B cl ao m):SXs X B cl ao m:=by unfold XIs at k;exact k
theorem xm:XIs X B cl ao nvX:=by unfold XIs;exact Ow
theorem tN(k:XI X B cl st m):XIs X B cl [st] m:=by unfold XI at k;unfold XIs;exact MJ k
theorem vo(k:XI X B cl st m):XIs X B cl (st::ao) m:=by
 unfold XI at k;unfold XIs;exact Cj (u:=λ_ _ _=>False) k λ_ _ _ _ _ _ z=>z.elim
theorem ve(k:SI X B st gs)(k1:XI X B cl st m)(t:XIs X B cl ao m'):XIs X B cl (st::ao) (orX m (thenX gs m')):=by
 unfold SI at k;unfold XI at k1;unfold XIs at t ⊢;exact Fk k k1 t
theorem Mj(k:SI X B st gs)(t:XIs X B cl ao m'):XIs X B cl (st::ao) (thenX gs m'):=by
 unfold SI at k;unfold XIs at t ⊢;exact Fk k J8 t
theorem uJ(hc:TD X B c tc)(ha:XIs X B cl sa m)(hb:XIs X B cl sb m'):XI X B cl (.If c sa sb pos) (ifX tc m m'):=by
 unfold XIs at ha hb;unfold XI;exact L0 hc ha hb
end
end DL
namespace DL
open PySem PySem.Spec PyProof.Rows PySem.W
structure XCls(K:Wd)(C:i_):Prop where
 ga:X7 K (.ref C) "__getattribute__"=some (some (.builtin "BaseException.__getattribute__"))
 ng:X7 K (.ref C) "__getattr__"=some none
 cl:X7 K (.ref C) "__class__"=some (some (.builtin "object.__class__"))
 ob:Xw K C (.type "object")=some true
 be:Xw K C (.type "BaseException")=some true
section
variable{K:Wd}{prog:x_}{w:I_}{E:b_->c_->Prop}{x:i_}{o:Obj}{vs:Array b_}
theorem OQ{g:Array GenState}{d:Drawn}{t:Nat}{os:OsState}{Q:Option b_->c_->Prop}(c:XCls K C)(X:K.In h)(hx:h.get? x=some o)(hc:o.cls=.ref C)(hd:o.data=.fields vs)(q:Q (some (.ref C)) ⟨h,g,d,t+1,os⟩):
  r_ (t_ prog w) A (getAttr? (.ref x) "__class__") Q E ⟨h,g,d,t,os⟩:=by
 obtain⟨oc,od,rY,dL⟩:=o;dsimp only at hc hd;subst hc hd;have lo1:=Xl (M:=t_ prog w) X c.ga;have qh:=Xl (M:=t_ prog w) X c.ng;have qi:=Xl (M:=t_ prog w) X c.cl;have qj:=Wz (M:=t_ prog w) X c.be;have qk:=Wz (M:=t_ prog w) X c.ob;have nT:Vw (t_ prog w) h (Xo (.ref x)) (.ref C):=(Vw.ld hx).andThen .now;unfold getAttr?;unfold getAttrBy? getAttrBy;refine a_ (wpAny_mkText (a_ (T6 (Sd (a_ (nT.at (a_ (lo1.at ?_))))))))
 have no:(onTheHeap (b_.ref C)&&Yh "BaseException.__getattribute__" == Yh "object.__getattribute__")=false:=by
  rw[show(Yh "BaseException.__getattribute__" == Yh "object.__getattribute__")=false from by decide +kernel,Wm]
 dsimp only;rw[no,if_neg l_];unfold getAttrByItsOwn;have f3:=PySem.F.attrBase_ValueError.ga.bind (.ref x)
 repeat (any_goals (first | assumption | (with_reducible refine qh.at ?_) | (with_reducible refine UH hx ?_)  | wp_step))
 show T_ _ _ (.call _ ⟨[_,_],[]⟩) _ _;refine U3 PySem.F.attrBase_ValueError.ga.plain PySem.F.entry_bexc_ga ?_;have k1:builtinKind "BaseException.__getattribute__"=some .slot:=by decide +kernel
 have k2:splitId "BaseException.__getattribute__"=some ("BaseException", "__getattribute__"):=by decide +kernel
 have k3:=PySem.F.args_bexc_ga (.ref x) (.str "__class__" t);simp only[checkBuiltinCall,k1,k2];refine a_ ?_;unfold WY;refine a_ (nT.at (qj.at ?_))
 repeat (any_goals (first | wp_step | assumption))
 have T5:(⟨h,g,d,t+1,os⟩:c_).TypeIs (.builtin "object.__class__") "getset_descriptor":=PySem.F.typeOf_object_class;have f5:=PySem.F.typeOf_object_class;have f6:=Xx.lookup;have f7:=PySem.F.slot_gs_set.lookup
 repeat (any_goals (first | assumption | (with_reducible refine qi.at ?_) | (with_reducible refine UH hx ?_)  | wp_step))
 refine U3 Xx.plain PySem.F.entry_gs_get (Xx.check _ _ _ _ _ _ _ _ T5 (PySem.F.args_gs_get _ _ _) ?_);have ql:Vw (t_ prog w) h (isSubtype (.ref C) (.type (".".intercalate ("object.__class__".cutAt '.').dropLast))) true:=by rw[show(".".intercalate ("object.__class__".cutAt '.').dropLast) = "object" from by decide +kernel];exact qk
 repeat (any_goals (first | assumption | (with_reducible refine ql.at ?_) | (with_reducible refine UH hx ?_)  | wp_step))
 refine⟨WZ _ (by decide +kernel),SG PySem.F.entry_object_class ?_⟩
 repeat (any_goals (first | assumption | (with_reducible refine UH hx ?_)  | wp_step))
end
end DL
namespace DL
open PySem PySem.Spec PyProof.Rows L2 PySem.W
theorem Lv{K:Wd}(c:XCls K C):KitX K (.ref a) (.ref C) (λh=>∃o vs,h.get? a=some o/\o.cls=.ref C/\o.data=.fields vs) where
 ty:=λM h _ ⟨o,vs,h1,h2,_⟩=>h2▸(Vw.ld h1).andThen .now
 it:=λM h X _=>by
  obtain⟨cd,hc,_⟩:=VX.mp c.ob;unfold clsIn at hc;split at hc
  ·rename_i ho;intro A Q E s kp qq;unfold isType loadHead;exact a_ (wpAny_loadPart (kp _ _ (X _ _ ho)) (d_ qq))
  ·cases hc
 ne:=λh tp _ _ _ _ X qm=>by
  obtain⟨cd,hc,_⟩:=VX.mp c.ob;refine VB.mpr λqq=>?_
  cases b_.ref.inj (beq_iff_eq.mp qq);unfold clsIn at hc;split at hc
  ·rename_i ho
   cases(X _ _ ho).symm.trans qm
  ·cases hc
 ca:=λ{prog w A E Q s} X ⟨o,vs,h1,h2,h3⟩ k=>by
  obtain⟨h,g,d,t,os⟩:=s;exact OQ c X h1 h2 h3 k
noncomputable def xNames:List Str:=["NoKin", "NoHouse", "NoRoad", "Ring", "NoHold", "NoLetter", "NoStep", "NoText", "NoRow", "NoLog"]
noncomputable def yNames:List Str:= "RoofError"::xNames
noncomputable def subX(x y:Str):Bool:=x == y||y == ("RoofError":Str)
noncomputable def xclsB(K:Wd)(C:i_):Bool:=X7 K (.ref C) "__getattribute__" == some (some (.builtin "BaseException.__getattribute__"))&&X7 K (.ref C) "__getattr__" == some none &&
 X7 K (.ref C) "__class__" == some (some (.builtin "object.__class__"))&&Xw K C (.type "object") == some true&&Xw K C (.type "BaseException") == some true
theorem Ku{K:Wd}(h:xclsB K C=true):XCls K C:=by
 unfold xclsB at h;simp only[J_,beq_iff_eq] at h;obtain⟨⟨⟨⟨h1,h2⟩,h3⟩,h4⟩,h5⟩:=h;exact⟨h1,h2,h3,h4,h5⟩
noncomputable def xTab(K:Wd):Bool:=xNames.all λx=>xclsB K (clOf K x)&&(Yi K (.ref (clOf K x)) (.type "ValueError") == some true)&&yNames.all λy=>Yi K (.ref (clOf K x)) (.ref (clOf K y)) == some (subX x y)
theorem MQ{K:Wd}(h:xTab K=true){x:Str}(hx:xNames.contains x=true):XCls K (clOf K x):=by
 have:=n_.mp h x (by simpa using hx);simp only[J_] at this;exact Ku this.1.1
theorem P0{K:Wd}(h:xTab K=true){x:Str}(hx:xNames.contains x=true):Yi K (.ref (clOf K x)) (.type "ValueError")=some true:=by
 have:=n_.mp h x (by simpa using hx);simp only[J_,beq_iff_eq] at this;exact this.1.2
theorem NF{K:Wd}(h:xTab K=true){x:Str}(hx:xNames.contains x=true)(hy:yNames.contains y=true):Yi K (.ref (clOf K x)) (.ref (clOf K y))=some (subX x y):=by
 have:=n_.mp h x (by simpa using hx);simp only[J_] at this;exact beq_iff_eq.mp (n_.mp this.2 y (by simpa using hy))
noncomputable def isxF(y:Str)(d:D):Option D:=match d with
 | .exc x _=>if xNames.contains x=true/\yNames.contains y=true then some (.bl (subX x y)) else none
 | _=>none
noncomputable def isvF(d:D):Option D:=match d with
 | .exc x _=>if xNames.contains x=true then some (.bl true) else none
 | _=>none
section
variable{B:BB}
theorem JK{H:Hp}{s:c_}{x:Str}{d:Option i_}(I:Inv X aa Z H s)(h:H a=some (ExO X.K a x d)):∃o vs,s.heap.get? a=some o/\o.cls=.ref (clOf X.K x)/\o.data=.fields vs/\∀dx,d=some dx->o.dict=some dx:=by
 obtain⟨p,_⟩:=I.hok a _ h;exact p
theorem Gc(hX:xTab X.K=true){H:Hp}{s:c_}{Q:VK}{x:Str}{n:Option Int}{v:V}{c:b_}{b:Bool}{E:b_->c_->Prop}(I:Inv X aa Z H s)(hx:xNames.contains x=true)(hd:Is X.K H (.exc x n) v)(r:RelV v u)(k:Yi X.K (.ref (clOf X.K x)) c=some b)(q:Q (.bl b) H):
  r_ (t_ X.prog X.w) A (call (.builtin "isinstance") [u,c]) (EP X aa Z Q) E s:=by
 obtain⟨a,d,rfl,h1,_⟩:=Bf hd
 cases(show u=b_.ref a from r)
 obtain⟨o,vs,e1,e2,e3,_⟩:=JK I h1;exact kia_one (Lv (MQ hX hx)) I.kIn ⟨o,vs,e1,e2,e3⟩ k (λz=>nomatch z) λtk=>⟨.bl b,H,I.tok _,rfl,q⟩
theorem Ja(hX:xTab X.K=true)(y:Str):CallR X (.builtin "isinstance") (λxs H Q=>∃x n v,xs=[v,.ref (clOf X.K y)]/\(xNames.contains x=true/\yNames.contains y=true)/\Is X.K H (.exc x n) v/\Q (.bl (subX x y)) H):=by
 intro aa s Z H xs us Q I r h;obtain⟨x,n,v,rfl,⟨hx,hy⟩,hd,q⟩:=h;cases r with
 | cons rx r =>
  cases r with
  | cons rt r =>
   cases r;cases rt;exact Gc hX I hx hd rx (NF hX hx hy) q
theorem Js(hX:xTab X.K=true):CallR X (.builtin "isinstance") (λxs H Q=>∃x n v,xs=[v,.ty "ValueError"]/\xNames.contains x=true/\Is X.K H (.exc x n) v/\Q (.bl true) H):=by
 intro aa s Z H xs us Q I r h;obtain⟨x,n,v,rfl,hx,hd,q⟩:=h;cases r with
 | cons rx r =>
  cases r with
  | cons rt r =>
   cases r;cases rt;exact Gc hX I hx hd rx (P0 hX hx) q
end
section
variable{H:Hp}{s:c_}
theorem M0{P:x_}{w:I_}{K:Wd}{x:Str}{d:Option i_}{o:Obj}{vs:Array b_}(e1:h.get? a=some o)(e2:o.cls=.ref (clOf K x))(e3:o.data=.fields vs)(e4:∀dx,d=some dx->o.dict=some dx):ObjOk P w H' h a (ExO K a x d):=
 ⟨⟨o,vs,e1,e2,e3,e4⟩,⟨o,e1⟩,λh1 h2 ⟨o',lc,q1,q2,q3,q4⟩ k=>⟨o',lc,k _ q1,q2,q3,q4⟩⟩
theorem Inv.track{x:Str}(I:Inv X aa Z H s)(c1:∀b o,X.s₀.heap.get? b=some o->b∉X.ex->∃o',aJ.get? b=some o')(c2:∀p∈X.pn++aa,∃o,aJ.get? p.1=some o)(F:Flies H aJ s.heap a (clOf X.K x)):Inv X aa Z (upd H a (ExO X.K a x none)) s:=by
 obtain⟨oe,vs,a0,e1,e2,e3,_,e5,e6,_⟩:=F;have up:=tW e5 (ExO X.K a x none);refine⟨I.ok,I.os,I.bare,⟨I.base.keep,I.base.slot,λb o q n hx=>?_,I.base.there,λb xs q=>up _ _ (I.base.tups b xs q),λb o u q=>up _ _ (I.base.frzs b o u q),λb ps q=>let ⟨m,z⟩:=I.base.tbls b ps q;⟨m,up _ _ z⟩⟩,I.loc,I.cell,?_,λy c hy=>?_,λp hp=>?_,λb u q=>?_,I.len⟩
 ·rw[sN λz=>?_]
  ·exact I.base.free b o q n hx
  ·obtain⟨_,k⟩:=c1 b o q hx;rw[z,e6] at k;cases k
 ·rw[sN λz=>?_]
  ·exact I.free
  ·obtain⟨_,⟨o',es,ep,e',d',_⟩,_⟩:=I.loc;rw[z,e1] at e';cases e';rw[e3] at d';cases d'
 ·rw[sN λz=>?_]
  ·exact I.freeC y c hy
  ·obtain⟨v,o',e',d'⟩:=I.cell y c hy;rw[z,e1] at e';cases e';rw[e3] at d';cases d'
 ·obtain⟨k1,k2,k3,k4,k5⟩:=I.pin p hp;refine⟨k1,?_,k3,k4,k5⟩;rw[sN λz=>?_]
  ·exact k2
  ·obtain⟨_,k⟩:=c2 p hp;rw[z,e6] at k;cases k
 ·by_cases hb:b=a
  ·subst hb;rw[tm] at q;cases q;exact M0 e1 e2 e3 λdx z=>nomatch z
  ·rw[sN hb] at q;exact(I.hok b u q).stay (λc v _ z=>z) (λc z=>up _ _ z) (λc xs z=>up _ _ z)
theorem Li{M:Xr}{E:b_->c_->Prop}{x:Str}{Q:Unit->c_->Prop}(I:Inv X aa Z H s)(hN:X.N.Nodup)(hi:X.N[i]?=some x)(hx:X.env.kindOf x=some .local)(k:∀s',Inv X aa (Z.set i none) H s'->Q () s'):
  r_ M A (do bindName X.env x .none;unbindBehindTheSuite X.env x pos) Q E s:=by
 obtain⟨m,hn,hl⟩:=id I.loc;have cne:=I.cne;obtain⟨oL,_,_,mn,_⟩:=id hn;refine wpAny_nameGoes_keeps hx hn (by rw[I.ok.kind];rfl) λh' v eW hs=>?_
 have dB:∀b o,X.s₀.heap.get? b=some o->b≠X.env.locals:=λb o e=>R0 (K_ (E_ e) I.ok.above)
 refine k _ ⟨I.ok,I.os,I.bare,⟨λb o e n hb hx=>(hs.2 b (dB b o e)).trans (I.base.keep b o e n hb hx),λb o e n hb hx=>?_,I.base.free,λb o e hx=>?_,I.base.tups,I.base.frzs,I.base.tbls⟩,⟨_,eW,λj y v' e1 e2 e3=>?_⟩,λy c e=>?_,I.free,I.freeC,λp hp=>?_,λb ob e=>?_,by rw[Tn];exact I.len⟩
 ·obtain⟨sl,e1⟩:=I.base.slot b o e n hb hx;exact⟨sl,(hs.2 b (dB b o e)).trans e1⟩
 ·obtain⟨o',e1⟩:=I.base.there b o e hx;exact⟨o',(hs.2 b (dB b o e)).trans e1⟩
 ·by_cases hj:j=i
  ·subst hj;rw[List.getElem?_set] at e2;split at e2
   ·split at e2<;>cases e2
   ·exact absurd rfl ‹_›
  ·rw[R_ (R5 hj)] at e2;obtain⟨u',r',q⟩:=hl j y v' e1 e2 e3;refine⟨u',r',?_⟩
   rcases q with⟨z1,z2⟩ | ⟨z1,c,z2,z3⟩
   ·have ne:y≠x:=λz=>hj (Au hN e1 (z▸hi))
    exact .inl ⟨z1,by simp[ne,z2]⟩
   ·exact .inr ⟨z1,c,z2,z3.sameBut hs (cne y c z2)⟩
 ·obtain⟨w',z⟩:=I.cell y c e;exact⟨w',z.sameBut hs (cne y c e)⟩
 ·obtain⟨z1,z2,z3,z4,z5⟩:=I.pin p hp;exact⟨(hs.2 p.1 z3).trans z1,z2,z3,z4,z5⟩
 ·refine(I.hok b ob e).stay (λc u hc q=>(hs.2 c λz=>?_).trans q) (λ_ q=>q) λ_ _ q=>q
  rw[z] at hc
  rcases hc with hc | hc
  ·rw[←hc,I.free] at e;cases e
  ·rw[I.free] at hc;cases hc
end
noncomputable def xTop(K:Wd):Bool:=typeIn K (.ref (clOf K "RoofError")) == some (.type "type")&&Xw K (clOf K "RoofError") (.type "BaseException") == some true&&xNames.all λx=>Xw K (clOf K x) (.ref (clOf K "RoofError")) == some true
theorem LC{K:Wd}{M:Xr}{E:b_->c_->Prop}{g:Array GenState}{d:Drawn}{t:Nat}{os:OsState}{T:i_}{o:Obj}{Q:Bool->c_->Prop}(X:K.In h)(ty:typeIn K (.ref T)=some (.type "type"))(be:Xw K T (.type "BaseException")=some true)(sb:Xw K C (.ref T)=some true)(e1:h.get? a=some o)(e2:o.cls=.ref C)(q:Q true ⟨h,g,d,t,os⟩):
  r_ M A (excMatches (.ref a) (.ref T)) Q E ⟨h,g,d,t,os⟩:=by
 have L1:=looks_typeIn (M:=M) X ty;have L2:=Wz (M:=M) X be;have L3:=Wz (M:=M) X sb
 have L4:Vw M h (isType (.ref T)) true:=by
  obtain⟨cd,hc,_⟩:=VX.mp be;unfold clsIn at hc;split at hc
  ·rename_i ho;intro A Q E s kp qq;unfold isType loadHead;exact a_ (wpAny_loadPart (kp _ _ (X _ _ ho)) (d_ qq))
  ·cases hc
 have L5:Vw M h (Xo (.ref a)) (.ref C):=e2▸(Vw.ld e1).andThen .now;have f:=tc_notTuple;unfold excMatches WY isExcClass
 repeat (first | (with_reducible refine L1.at ?_) | (with_reducible refine L4.at ?_) | (with_reducible refine L2.at ?_) | (with_reducible refine L3.at ?_) | (with_reducible refine L5.at ?_) | wp_step)
 exact q
noncomputable def xNm(n:Nat):Str:=xNames.getD n "NoKin"
theorem M3(n:Nat):xNames.contains (xNm n)=true:=by
 match n with
 | 0 | 1 | 2 | 3 | 4 | 5 | 6 | 7 | 8 | 9=>decide
 | k+10=>have e:xNm (k+10) = "NoKin":=rfl;rw[e];decide
noncomputable def clN(K:Wd)(n:Nat):i_:=clOf K (xNm n)
noncomputable def clr(j:Nat):M Unit:=λΓ=>some ((),Γ.set j none)
noncomputable def tryE(g:M Fl)(m:M Nat)(j i:Nat):M Fl:=λΓ=>match m Γ with
 | some (c,Γ1)=>(bnd (putS j (.val (.exc (xNm c) none))) λ_=>bnd (setV i (nm j)) λ_=>bnd (clr j) λ_=>ret .nx) Γ1
 | none=>g Γ
theorem Rep.gone{K:Wd}{B:BB}{H:Hp}(r:Rep K B G I H Z Γ)(i:Nat):Rep K B G I H (Z.set i none) (Γ.set i none) where
 iH:=r.iH
 gH:=r.gH
 len:=by rw[Tn,Tn];exact r.len
 slot:=λj q e=>by
  rcases tJ e with⟨_,z,_⟩ | ⟨n,z⟩
  ·cases z
  ·rw[R_ (R5 n)];exact r.slot j q z
 dist:=λj k q q' v e e' m m' s1 s2=>by
  rcases tJ e with⟨_,z,_⟩ | ⟨n,z⟩
  ·cases z
  rcases tJ e' with⟨_,z',_⟩ | ⟨n',z'⟩
  ·cases z'
  rw[R_ (R5 n)] at s1;rw[R_ (R5 n')] at s2;exact r.dist j k q q' v z z' m m' s1 s2
 bor:=λj ds e=>by
  rcases tJ e with⟨_,z,_⟩ | ⟨n,z⟩
  ·cases z
  ·rw[R_ (R5 n)];exact r.bor j ds z
section
variable{B:BB}
theorem Ms{body:List Sb}{g:M Fl}{m:M Nat}{ep yp ap hp:Pos}(hX:xTop X.K=true)(hN:X.N.Nodup)(dG:X.stack=X.env::X.outer)(ii:X.env.frame=some X.env.locals)(hm:X.mg "RoofError"=some (.ref (clOf X.K "RoofError")))(hb:∀E pn,SDs (Cx.tried X E pn) B body g)(qo:∀E pn,SXs (Cx.tried X E pn) B (clN X.K) body m)(hg:Gl X "RoofError":=by exact rfl)(hi:X.N[i]?=some y:=by rfl)(hj:X.N[j]?=some z:=by rfl)(hy:locB X.env.scope y=true:=by rfl)(hf:fnB X y=true:=by rfl)(hz:X.env.scope.names.lookup z=some .local:=by rfl)(hv:visB X.env.scope z=true:=by rfl)(qp:X.env.kindOf z=some .local:=by rfl)(nU:(z == ("__debug__":Str))=false:=by decide)(nV:(z == ("__classdict__":Str))=false:=by decide)(hs:∀a,SK (.Name z ep) (some (.Name y yp)) ap.line (Cx.suite X a).env=pure false:=by intros;rfl):
  SD X B (.Try body [.ExceptHandler (some (.Name "RoofError" np)) (some z) [.Assign [.Name y yp] (.Name z ep) ap] hp] [] [] pos) (tryE g m j i):=by
 intro aa s Z H D I q;obtain⟨G,J,Γ,f,ae,r,e1,k⟩:=q;unfold tryE at e1;cases em:m Γ with
 | none =>
  rw[em] at e1;refine wpAny_Try_except (thn (hb _ (X.pn++aa) [] s Z H D (Fq I) ⟨G,J,Γ,f,ae,r,e1,k⟩) λfl s1 q=>?_);cases fl with
  | next=>obtain⟨ah,H',I',q⟩:=q;exact U5 ⟨ah,H',xo I',q⟩
  | brk=>obtain⟨ah,H',I',q⟩:=q;exact⟨ah,H',xo I',q⟩
  | cont=>obtain⟨ah,H',I',q⟩:=q;exact⟨ah,H',xo I',q⟩
  | ret u=>obtain⟨v,ah,H',I',q⟩:=q;exact⟨v,ah,H',xo I',q⟩
 | some cy =>
  obtain⟨c,Γ1⟩:=cy;rw[em] at e1;obtain⟨_,Γ2,e2,e3⟩:=rK e1;obtain⟨qt,aM,e4,e5⟩:=rK e3;obtain⟨_,aP,e6,e7⟩:=rK e5;cases e7;cases e6;have qu:=e4;obtain⟨hl,rfl⟩:=vy e2
  have qv:qt=.nx:=by
   obtain⟨_,_,_,z2⟩:=rK e4;obtain⟨_,_,_,z4⟩:=rK z2;cases z4;rfl
  subst qv;refine wpAny_Try_except (thn (qo _ (X.pn++aa) [] s Z H ⟨λ_ _=>False,λ_ _=>False,λ_ _=>False,λ_ _=>False⟩ (Fq I) ⟨G,J,Γ,c,Γ1,r,em,λah H' I' r' g'=>?_⟩) λfl s1 q=>?_);rotate_left
  ·cases fl with
   | next=>obtain⟨_,_,_,q⟩:=q;exact q.elim
   | brk=>obtain⟨_,_,_,q⟩:=q;exact q.elim
   | cont=>obtain⟨_,_,_,q⟩:=q;exact q.elim
   | ret u=>obtain⟨_,_,_,_,_,q⟩:=q;exact q.elim
  intro ps s1 aJ a I1 c1 c2 c3 F;have I2:=xo I1;have lN:∀p∈X.pn++aa,∃o,aJ.get? p.1=some o:=λp hp=>c2 p (Sk _ hp)
  have fr:=I2.ok.frames;have st:=I2.stack;rw[dG] at fr st;show r_ (t_ X.prog X.w) X.A (WF (.ref a) X.env) _ _ s1;refine GB fr ii st I2.hok c3 F λh2 ch T F2=>?_
  rw[←dG] at T;have I3:=T.inv I2 c1 lN;have l3:=T.lasts c3;unfold xTop at hX;simp only[J_,beq_iff_eq] at hX;obtain⟨⟨x1,x2⟩,x3⟩:=hX;have x4:Xw X.K (clN X.K c) (.ref (clOf X.K "RoofError"))=some true:=beq_iff_eq.mp (n_.mp x3 _ (by have:=M3 c;simpa using this));obtain⟨oe,vs,a0,f1,f2,f3,f4,f5⟩:=id F2;refine wpAny_handleBy_cons (codeAny_handlers_test (wL (X:=Cx.suite X a) (GL I3) hg hm (LC I3.kIn x1 x2 x4 f1 f2 (codeAny_handlers_suite_as ?_)) (by decide))) (by intro q;cases q);refine JV I3.stack I3.hok l3 F2 λh3 rZ T3 F3=>?_
  have I4:=T3.inv I3 c1 lN;have I5:=DL.Inv.track I4 (x:=xNm c) c1 lN F3;obtain⟨_,_,_,_,_,_,_,free,_⟩:=id F3;have rA:=r'.alloc free (ExO X.K a (xNm c) none);have gA:=r'.growAlloc free (ExO X.K a (xNm c) none);refine AC (X:=Cx.suite X a) (v:=.ref a) (GL I5) hN hj (.inl hz) rfl (λs4 I6=>?_) (.inr hz);have rB:=rA.store (i:=j) (q:=.val (.exc (xNm c) none)) (v:=.ref a) (by rw[rA.len];exact hl) (Is.exc tm λk z=>nomatch z) (λz=>nomatch z) (λ_ z=>nomatch z);have eM:SDs (Cx.suite X a) B [.Assign [.Name y yp] (.Name z ep) ap] (setV i (nm j)):=GH (ES (X:=Cx.suite X a) hN (Fh (pv j hj hv nU nV)) hi hy (hs a) hf);refine Sa (eM aa _ _ _ ⟨λkl nW=>∃fY,Rep X.K B G fY nW kl aM/\Grow G (upd I' a (ExO X.K a (xNm c) none)) fY,λ_ _=>False,λ_ _=>False,λ_ _=>False⟩ I6 ⟨G,_,_,.nx,aM,rB,qu,λkl nW fY qw qx=>⟨fY,qw,qx⟩⟩) (λfl s5 q=>?_) λ_ _ z=>z.elim
  cases fl with
  | next =>
   obtain⟨c9,H5,I7,fY,r5,g5⟩:=q;refine Li (Pl I.ok I7) hN hj qp λs6 I8=>?_
   exact⟨_,H5,I8,k _ H5 fY (r5.gone j) (g'.trans (gA.trans g5))⟩
  | brk=>obtain⟨_,_,_,q⟩:=q;exact q.elim
  | cont=>obtain⟨_,_,_,q⟩:=q;exact q.elim
  | ret u=>obtain⟨_,_,_,_,_,q⟩:=q;exact q.elim
theorem Ko:∀Z H Q,tD X.K B (un1 (isxF y) ga) Z H Q->tCB (λxs H Q=>∃x n v,xs=[v,.ref (clOf X.K y)]/\(xNames.contains x=true/\yNames.contains y=true)/\Is X.K H (.exc x n) v/\Q (.bl (subX x y)) H) (tCons (tD X.K B ga) (tCons (tC (.ref (clOf X.K y))) tNil)) Z H Q:=λZ H Q q=>by
 obtain⟨G,I,Γ,d,ae,r,e1,k⟩:=q;obtain⟨d1,Γ1,e2,e3⟩:=rK e1;obtain⟨e4,rfl⟩:=sW e3;unfold isxF at e4;split at e4
 ·obtain⟨h1,rfl⟩:=tG e4;exact⟨G,I,Γ,_,_,r,e2,λv H1 I1 r1 g1 h2=>⟨_,_,v,rfl,h1,h2.mono r1.iH,k _ _ _ r1 g1 (Is.bl _)⟩⟩
 ·cases e4
theorem Nt:∀Z H Q,tD X.K B (un1 isvF ga) Z H Q->tCB (λxs H Q=>∃x n v,xs=[v,.ty "ValueError"]/\xNames.contains x=true/\Is X.K H (.exc x n) v/\Q (.bl true) H) (tCons (tD X.K B ga) (tCons (tC (.ty "ValueError")) tNil)) Z H Q:=λZ H Q q=>by
 obtain⟨G,I,Γ,d,ae,r,e1,k⟩:=q;obtain⟨d1,Γ1,e2,e3⟩:=rK e1;obtain⟨e4,rfl⟩:=sW e3;unfold isvF at e4;split at e4
 ·obtain⟨h1,rfl⟩:=tG e4;exact⟨G,I,Γ,_,_,r,e2,λv H1 I1 r1 g1 h2=>⟨_,_,v,rfl,h1,h2.mono r1.iH,k _ _ _ r1 g1 (Is.bl _)⟩⟩
 ·cases e4
theorem uH{p:Pos}(hX:xTab X.K=true)(hg:Gl X "isinstance")(hm:X.mg "isinstance"=none)(ig:Gl X y)(ij:X.mg y=some (.ref (clOf X.K y)))(ha:ED X B e ga)(hd:(y == ("__debug__":Str))=false:=by decide)(he:e_ [e,.Name y p2] X.env=(false,eval e X.env)::e_ [.Name y p2] X.env:=by rfl)(ik:e_ [.Name y p2] X.env=(false,eval (.Name y p2) X.env)::e_ [] X.env:=by rfl)(aC:(R4 pos (e_ [.Name y p2] X.env)).any (·.1)=false:=by rfl):
  ED X B (.Call (.Name "isinstance" p) [e,.Name y p2] [] pos) (un1 (isxF y) ga):=
 PE.imp (w6 (Ja hX y) hg hm boot_isinstance (uY ha (uY (Iq (v:=.ref (clOf X.K y)) ig ij rfl hd) wa ik) he) (by decide) (by decide) he aC) Ko
theorem Ki{p:Pos}(hX:xTab X.K=true)(hg:Gl X "isinstance")(hm:X.mg "isinstance"=none)(ig:Gl X "ValueError")(ij:X.mg "ValueError"=none)(ha:ED X B e ga)(he:e_ [e,.Name "ValueError" p2] X.env=(false,eval e X.env)::e_ [.Name "ValueError" p2] X.env:=by rfl)(ik:e_ [.Name "ValueError" p2] X.env=(false,eval (.Name "ValueError" p2) X.env)::e_ [] X.env:=by rfl)(aC:(R4 pos (e_ [.Name "ValueError" p2] X.env)).any (·.1)=false:=by rfl):
  ED X B (.Call (.Name "isinstance" p) [e,.Name "ValueError" p2] [] pos) (un1 isvF ga):=
 PE.imp (w6 (Js hX) hg hm boot_isinstance (uY ha (uY (N6 (v:=.ty "ValueError") ig ij (by decide +kernel) rfl) wa ik) he) (by decide) (by decide) he aC) Nt
end
end DL
namespace DL
open PySem PySem.Spec PyProof.Rows L2 PySem.W
open PySem.Builtin PySem.Builtin.ObjectAttr
end DL
namespace DL
open PySem PySem.Spec PyProof.Rows L2 PySem.W
section
variable{B:BB}{a b:RW}{gb:M D}
def few9(i:Int):Prop:=i.natAbs < 10 ^ 99
theorem As{i:Int}(h:few9 i):(txt i).length<=100:=by
 have:=int_text_length_le10 (a:=i) (k:=99) (by decide) h;have e:(txt i).length=(toString i).length:=by unfold txt;rw[PySem.ofString_length]
 omega
theorem log9{i:Int}(h:few9 i):i.natAbs.log2 < 1920:=by
 by_cases z:i.natAbs=0
 ·rw[z];decide
 ·exact(Nat.log2_lt z).mpr (Nat.lt_trans h (by decide))
noncomputable def tF1(x:Str)(ta:TE):TE:=λZ H Q=>ta Z H λv H1=>∃m:Int,v=.int m/\few9 m/\Q (.str (x++txt m)) H1
theorem JO{x:Str}{ta:TE}(hx:x.length<=100)(ha:PE X a ta):
  PE X (.JoinedStr [.Constant (.str x) j p1,.FormattedValue a (-1) none p2] pos) (tF1 x ta):=by
 intro aa s Z H Q I h;have line:1000<=A_:=by rw[Sy];decide
 refine wpAny_JoinedStr (show Joins _ _ _ [eval (.Constant (.str x) j p1) X.env,eval (.FormattedValue a (-1) none p2) X.env] _ _ _ from ?_);refine Uf ⟨x,_,rfl,by rw[yM];omega,?_⟩;rw[yM];refine TM (thn (ha aa _ Z H _ (I.tok _) h) λv s1 ⟨m',H1,I1,r1,m,e1,hm,q1⟩=>?_);subst e1;obtain⟨t,rfl⟩:=r1;have lm:=As hm;refine UM (log9 hm) ⟨txt m,_,rfl,?_,?_⟩
 ·rw[SC];omega
 ·exact⟨by rw[SC];omega,⟨.str _,H1,(I1.tok _).tok _,⟨_,rfl⟩,q1⟩⟩
noncomputable def tF2(x y:Str)(ta tb:TE):TE:=λZ H Q=>ta Z H λv H1=>∃m:Int,v=.int m/\few9 m/\tb Z H1 λu H2=>∃n:Int,u=.int n/\few9 n/\Q (.str (x++txt m++y++txt n)) H2
theorem Ji{x:Str}{ta tb:TE}(hx:x.length<=100)(hy:y.length<=100)(ha:PE X a ta)(hb:PE X b tb):
  PE X (.JoinedStr [.Constant (.str x) j p1,.FormattedValue a (-1) none p2,.Constant (.str y) i p3,.FormattedValue b (-1) none p4] pos) (tF2 x y ta tb):=by
 intro aa s Z H Q I h;have line:1000<=A_:=by rw[Sy];decide
 refine wpAny_JoinedStr (show Joins _ _ _ [eval (.Constant (.str x) j p1) X.env,eval (.FormattedValue a (-1) none p2) X.env,eval (.Constant (.str y) i p3) X.env,eval (.FormattedValue b (-1) none p4) X.env] _ _ _ from ?_);refine Uf ⟨x,_,rfl,by rw[yM];omega,?_⟩;rw[yM];refine TM (thn (ha aa _ Z H _ (I.tok _) h) λv s1 ⟨m',H1,I1,r1,m,e1,hm,q1⟩=>?_);subst e1;obtain⟨t,rfl⟩:=r1;have lm:=As hm;refine UM (log9 hm) ⟨txt m,_,rfl,?_,?_⟩
 ·rw[SC];omega
 refine Uf ⟨y,_,rfl,by rw[SC,SC];omega,?_⟩;refine TM (thn (hb aa _ Z H1 _ (((I1.tok _).tok _).tok _) q1) λv s2 ⟨n',H2,I2,r2,n,e2,hn,q2⟩=>?_);subst e2;obtain⟨t,rfl⟩:=r2;have ln:=As hn;refine UM (log9 hn) ⟨txt n,_,rfl,?_,?_⟩
 ·rw[SC,SC,SC];omega
 ·exact⟨by rw[SC,SC,SC];omega,⟨.str _,H2,(I2.tok _).tok _,⟨_,rfl⟩,q2⟩⟩
instance {i:Int}:Decidable (few9 i):=by unfold few9;infer_instance
noncomputable def f1F(x:Str)(a:D):Option D:=match a with
 | .int i=>if few9 i then some (.str (x++txt i)) else none
 | _=>none
noncomputable def f2F(x y:Str)(a b:D):Option D:=match a,b with
 | .int i,.int j=>if few9 i/\few9 j then some (.str (x++txt i++y++txt j)) else none
 | _,_=>none
theorem DD{x:Str}(hx:x.length<=100)(ha:ED X B a ga):ED X B (.JoinedStr [.Constant (.str x) j p1,.FormattedValue a (-1) none p2] pos) (un1 (f1F x) ga):=PE.imp (JO hx ha) λZ H Q q=>by
 obtain⟨G,I,Γ,d,ae,r,e1,k⟩:=q;obtain⟨d1,Γ1,e2,e3⟩:=rK e1;obtain⟨e4,rfl⟩:=sW e3;unfold f1F at e4;split at e4
 ·rename_i m;obtain⟨ok,rfl⟩:=tG e4;exact⟨G,I,Γ,_,_,r,e2,λv H1 I1 r1 g1 h1=>⟨m,sQ h1,ok,k _ _ _ r1 g1 (Is.str _)⟩⟩
 ·cases e4
theorem Oz{x:Str}(hx:x.length<=100)(hy:y.length<=100)(ha:ED X B a ga)(hb:ED X B b gb):ED X B (.JoinedStr [.Constant (.str x) j p1,.FormattedValue a (-1) none p2,.Constant (.str y) i p3,.FormattedValue b (-1) none p4] pos) (op2 (f2F x y) ga gb):=PE.imp (Ji hx hy ha hb) λZ H Q q=>by
 obtain⟨G,I,Γ,d,ae,r,e1,k⟩:=q;obtain⟨d1,Γ1,e2,e3⟩:=rK e1;obtain⟨d2,Γ2,e4,e5⟩:=rK e3;obtain⟨e6,rfl⟩:=sW e5;unfold f2F at e6;split at e6
 ·rename_i m n;obtain⟨ok,rfl⟩:=tG e6;exact⟨G,I,Γ,_,Γ1,r,e2,λv H1 I1 r1 g1 h1=>⟨m,sQ h1,ok.1,G,I1,Γ1,_,_,r1,e4,λu H2 I2 r2 g2 h2=>⟨n,sQ h2,ok.2,k _ _ _ r2 (g1.trans g2) (Is.str _)⟩⟩⟩
 ·cases e6
end
noncomputable def nine:List Str:=["NoKin", "NoHouse", "NoRoad", "Ring", "NoHold", "NoLetter", "NoStep", "NoText", "NoRow"]
noncomputable def xAll(K:Wd):Bool:=xTab K&&xTop K&&(yNames.all λx=>nsIn K Sn x == some (some (.ref (clOf K x))))&&(nine.all λx=>xcIn K (clOf K x))&&nine.all λx=>keepIn K (.ref (clOf K x))
structure Exs(K:Wd)(mg:Str->Option b_):Prop where
 tab:xTab K=true
 top:xTop K=true
 m:∀x,yNames.contains x=true->mg x=some (.ref (clOf K x))
 xc:∀x,nine.contains x=true->xcIn K (clOf K x)=true
 kp:∀x,nine.contains x=true->keepIn K (.ref (clOf K x))=true
theorem MV{K:Wd}(X:K.In h)(G:h.Ns Sn mg)(b:xAll K=true):Exs K mg:=by
 unfold xAll at b;simp only[J_] at b;obtain⟨⟨⟨⟨b1,b2⟩,b3⟩,b4⟩,b5⟩:=b;exact⟨b1,b2,λx hx=>mg_of X G (beq_iff_eq.mp (n_.mp b3 x (by simpa using hx))),λx hx=>n_.mp b4 x (by simpa using hx),λx hx=>n_.mp b5 x (by simpa using hx)⟩
end DL
namespace DL
open PySem PySem.W PySem.Spec PyProof.Rows L2
section
variable{B:BB}{p:Pos}
theorem Hx:CallR X (.type "int") (λxs H Q=>∃b:Bool,xs=[.bl b]/\Q (.int (if b then 1 else 0)) H):=by
 intro aa s Z H xs us Q I r h;obtain⟨b,rfl,q⟩:=h;obtain⟨u,rfl,ru⟩:=vals1 r;cases ru;exact call_int_1 (meets_int_new_bool b) (show(Made.int (if b then 1 else 0)).post _ s from⟨rfl,⟨.int _,H,I.tok _,⟨_,rfl⟩,q⟩⟩)
noncomputable def intBF(ds:List D):Option D:=match ds with
 | [.bl b]=>some (.int (if b then 1 else 0))
 | _=>none
theorem Fu(hg:Gl X "int")(hm:X.mg "int"=none)(ha:AD X B [e] t)(he:e_ [e] X.env=(false,eval e X.env)::e_ [] X.env:=by rfl)(aC:(R4 pos (e_ [] X.env)).any (·.1)=false:=by rfl):
  ED X B (.Call (.Name "int" p) [e] [] pos) (fn1 intBF t):=Hm Hx (λds d e B G I H Z Γ xs Q r h k=>by
 unfold intBF at e;split at e
 ·cases e;obtain⟨y,rfl,hx⟩:=h.one;rw[tY hx];exact⟨_,rfl,k.now r (Is.int _)⟩
 ·cases e) hg hm boot_int ha (by decide) (by decide) he aC
end
end DL
namespace DL
open PySem PySem.Spec PyProof.Rows L2 PySem.W
def Fly(X:Cx):b_->c_->Prop:=λe s=>∃a C aa Z H aJ,e=.ref a/\Inv X aa Z H s/\(∀b o,X.s₀.heap.get? b=some o->b∉X.ex->∃o',aJ.get? b=some o')/\(∀p∈X.pn++aa,∃o,aJ.get? p.1=some o)/\Lasts aJ s.heap/\Flies H aJ s.heap a C/\Xz X C Z H
section
variable{B:BB}{cl:Nat->i_}
theorem Fly.out{e:b_}{s:c_}(h:Fly X e s):X.xe e s:=by
 obtain⟨a,C,aa,Z,H,aJ,rfl,I,c1,c2,c3,F,z⟩:=h;exact z aa s aJ a I c1 c2 c3 F
theorem Xz.fly{H:Hp}(z:Xz X C Z H):Xz (X.wish (Fly X)) C Z H:=λaa s aJ a I c1 c2 c3 F=>⟨a,C,aa,Z,H,aJ,rfl,I.unwish,c1,c2,c3,F,z⟩
theorem Lz(dG:X.stack=X.env::X.outer)(ii:X.env.frame=some X.env.locals):Xn (t_ X.prog X.w) X.A X.env (Fly X):=by
 rintro e s ⟨a,C,aa,Z,H,aJ,rfl,I,c1,c2,c3,F,z⟩;have fr:=I.ok.frames;have st:=I.stack;rw[dG] at fr st;refine Ed fr ii st I.hok c3 F λh' ch a0 fl ha T k1 k2 k3=>?_
 have F2:Flies H aJ h' a C:=Aq I.hok c3 st T ha k3;rw[←dG] at T;have I1:=T.inv I c1 c2;have l1:=T.lasts c3;obtain⟨oe,vs,T',oT,ts,e1,⟨e2,e3⟩,e4,e5,e6,e7,e8,e9,lM⟩:=k3;obtain⟨r8,r9,sd,j1,j2,j3,j4,j5,j6,j7⟩:=F2;rw[e1] at j1;cases j1;rw[e4] at j3;cases j3
 have q:H T'=none/\aJ.get? T'=none:=by
  rcases j7 with j | ⟨T2,se,sf,i1,i2,i3,i4,i5,i6,i7⟩
  ·rw[e5] at j;cases j
  ·rw[e5] at i1;cases i1;exact⟨i6,i7⟩
 have dM:3 < ts.size:=(D_.mp lM).1;unfold cameBackBy Xq;refine a_ (Sj e1 e4 e5 ?_);rw[if_neg (show ¬((b_.ref T' == b_.none)=true) by simp)];refine a_ (Sj e1 e4 e5 ?_);rw[if_pos (show(b_.ref T' != b_.none)=true by simp)];refine Tc e8 e9 dM ?_;have cu:∀b,b≠T'->(h'.update T' (VW (·.setIfInBounds 3 (X.env.frame.elim b_.none λf=>Uv f)))).get? b=h'.get? b:=λb hb=>O_ _ _ (R5 hb)
 have T3:Turn H aJ h' (h'.update T' (VW (·.setIfInBounds 3 (X.env.frame.elim b_.none λf=>Uv f)))) (frs X.stack) [T']:=by
  refine⟨λb hb=>?_,λb o e n _=>(cu b λy=>n (by rw[y];exact .head _)).trans e,λb o e m=>⟨o.slots,(cu b λy=>?_).trans e⟩⟩
  ·rw[s_.mp hb];exact⟨q.1,q.2,_,_,e8,e9⟩
  ·obtain⟨_,o',e',d⟩:=I1.stack.mem m;have e2:h'.get? b=some o':=e';rw[y,e8] at e2;cases e2;exact d ts e9
 have nX:=TJ e9 (·.setIfInBounds 3 (X.env.frame.elim b_.none λf=>Uv f));have g3:=Sm (VW (·.setIfInBounds 3 (X.env.frame.elim b_.none λf=>Uv f))) e8 (Tw nX);exact⟨a,C,aa,Z,H,aJ,rfl,T3.inv I1 c1 c2,c1,c2,T3.lasts l1,⟨oe,vs,a0,(cu a (R5 e7)).trans e1,e2,e4,e3,j5,j6,.inr ⟨T',_,_,e5,e7,g3,nX,by rw[VJ];exact dM,q.1,q.2⟩⟩,z⟩
noncomputable def forXM(az:D->M Unit)(body:M Fl)(mx:M Nat):List D->M Nat
 | []=>λ_=>none
 | d::ds=>bnd (az d) λ_=>orX mx (bnd body λf=>match f with
  | .nx=>forXM az body mx ds
  | .ct=>forXM az body mx ds
  | _=>λ_=>none)
noncomputable def forX(it:M (List D))(az:D->M Unit)(body:M Fl)(mx:M Nat):M Nat:=bnd it λds=>forXM az body mx ds
theorem IP{iter:RW}{body:List Sb}{g:M Fl}(dG:X.stack=X.env::X.outer)(ii:X.env.frame=some X.env.locals)(hc:X.calm=true)(hi:∀E,ITD (X.wish E) B tg iter it)(hg:∀E,GD (X.wish E) B m tg az)(hb:∀E,SDs (X.wish E) B body g)(hx:∀E,SXs (X.wish E) B cl body mx)(hs:∀x,Sq iter X.env x=pure x:=by intros;rfl):SX X B cl (.For tg iter body [] pos) (forX it az g mx):=by
 intro aa s Z H D I q;have fE:PSs (X.wish (Fly X)) body λD Z H=>tS X.K B g D Z H\/tSX (X.wish (Fly X)) B cl mx D Z H:=λaa s Z H D I q=>q.elim (hb _ aa s Z H D I) (hx _ aa s Z H D I)
 refine Sa (E2 (X:=X.wish (Fly X)) (Lz dG ii) hc (hi _) (hg _) fE hs aa s Z H D (I.wish _) ?_) (λf s' q=>q.unwish) λe s' z=>z.out
 clear I;obtain⟨G,I,Γ,C,ae,r,e1,k⟩:=q;obtain⟨ds,Γ1,e2,e3⟩:=rK e1;refine⟨G,I,Γ,ds,Γ1,r,e2,λJ H1 I1 r1 g1 y=>?_⟩;refine⟨λi m Z H=>∃I2 Γ2,Rep X.K B G I2 H Z Γ2/\Grow G I1 I2/\forXM az g mx (ds.drop i) Γ2=some (C,ae)/\i<=ds.length/\m=ds.length - i,⟨ds.length,I1,Γ1,r1,Grow.refl _ _,by simpa using e3,Sh _,rfl⟩,?_⟩;rintro i m' aS H2 ⟨I2,Γ2,r2,g2,e4,bw,rfl⟩;obtain⟨yg,ys⟩:=y i H2 (g2.up.trans r2.iH)
 rcases UC i ds.length with bD | sg
 ·obtain⟨go,yld⟩:=yg ds[i] (g_ bD);rw[R7 bD] at e4;obtain⟨u,aM,e5,e6⟩:=rK e4
  have qy:∃N:L2.St->Hp->Prop,(∀ah H',N ah H'->∃m',m' < ds.length - i/\∃I2 Γ2,Rep X.K B G I2 H' ah Γ2/\Grow G I1 I2/\forXM az g mx (ds.drop (i+1)) Γ2=some (C,ae)/\i+1<=ds.length/\m'=ds.length - (i+1)) ∧
    ∀dN H4 I4,Rep X.K B G I4 H4 dN aM->Grow G I2 I4->tS X.K B g { D with nx:=N,ct:=N,bk:=D.nx } dN H4\/tSX (X.wish (Fly X)) B cl mx { D with nx:=N,ct:=N,bk:=D.nx } dN H4:=by
   unfold orX at e6;cases em:mx aM with
   | some w =>
    rw[em] at e6;cases e6;exact⟨λ_ _=>False,λ_ _ z=>z.elim,λdN H4 I4 r4 g4=>.inr ⟨G,I4,aM,C,ae,r4,em,λc9 H5 I5 r5 g5=>(k c9 H5 I5 r5 (g1.trans (g2.trans (g4.trans g5)))).fly⟩⟩
   | none =>
    rw[em] at e6;obtain⟨fl,aP,e7,e8⟩:=rK e6
    have e9:(fl=.nx\/fl=.ct)/\forXM az g mx (ds.drop (i+1)) aP=some (C,ae):=by
     cases fl with
     | nx=>exact⟨.inl rfl,e8⟩
     | ct=>exact⟨.inr rfl,e8⟩
     | bk=>cases e8
     | rt v=>cases e8
    refine⟨λah H'=>∃I3,Rep X.K B G I3 H' ah aP/\Grow G I1 I3,λah H' ⟨I3,r3,g3⟩=>⟨_,by omega,I3,aP,r3,g3,e9.2,bD,rfl⟩,λdN H4 I4 r4 g4=>.inl ⟨G,I4,aM,fl,aP,r4,e7,λc9 H5 I5 r5 g5=>?_⟩⟩;have gg:∃I3,Rep X.K B G I3 H5 c9 aP/\Grow G I1 I3:=⟨I5,r5,g2.trans (g4.trans g5)⟩
    rcases e9.1 with rfl | rfl
    ·exact gg
    ·exact gg
  obtain⟨N,hN,hB⟩:=qy;refine .inr ⟨go,N,hN,λx H3 hy=>?_⟩;have turn:∀I3,Rep X.K B G I3 H3 aS Γ2->Grow G I2 I3->Is X.K I3 ds[i] x->tGD X.K B m az x aS H3 λaS H2=>tS X.K B g { D with nx:=N,ct:=N,bk:=D.nx } aS H2\/tSX (X.wish (Fly X)) B cl mx { D with nx:=N,ct:=N,bk:=D.nx } aS H2:=λI3 r3 g3 hx=>⟨G,I3,Γ2,ds[i],aM,r3,hx,e5,λdN H4 I4 r4 g4 _=>hB dN H4 I4 r4 (g3.trans g4)⟩
  rcases yld x H3 hy with⟨rfl,hx⟩ | ⟨p,es,xs,dA,rfl,cG,rfl,hx⟩
  ·exact turn I2 r2 (Grow.refl _ _) (hx.mono g2.up)
  ·refine turn _ (r2.alloc cG _) (r2.growAlloc cG _) ?_;rw[dA];exact Is.tup (SqT.of tm) ((hx.mono g2.up).mono (tW (r2.iFree cG) _))
 ·have cC:i=ds.length:=by omega
  subst cC;rw[VR] at e4;cases e4
end
end DL
namespace DL
open PySem PySem.W PySem.Spec PyProof.Rows L2 PySem.SeqAt
theorem BA:∀{bs:List Bool}{ac:List b_},Vals (bs.map V.bl) ac->ac=bs.map b_.bool
 | [],ac,h=>by cases h;rfl
 | b::bs,ac,h=>by
  cases h with
  | cons h1 h2 =>
   cases h1;rw[BA h2];rfl
theorem xJ{K:PySem.W.Frag}{I:Hp}:∀{bs:List Bool}{zs:List V},IsA K I (bs.map D.bl) zs->zs=bs.map V.bl
 | [],zs,h=>List.eq_nil_of_length_eq_zero h.length.symm
 | b::bs,zs,h=>by
  match zs,h with
  | [],h=>exact absurd h.length (by simp)
  | z::zs,h =>
   obtain⟨v,h1,h2⟩:=h.get (i:=0) (d:=.bl b) rfl;cases h1
   have t:IsA K I (bs.map D.bl) zs:=by
    rw[G_,IsA] at h;obtain⟨_,_,e,_,h3⟩:=h;cases e;exact h3
   rw[tY h2,xJ t];rfl
section
variable{B:BB}
theorem FD{k:Bool}{bs:List Bool}:∀y∈(bs.map b_.bool).toArray,∀(A:SH) (s:c_),XA A s y (.bool k) (WA k y):=λy hy A s=>by
 obtain⟨b,_,rfl⟩:=u_.mp (List.mem_toArray.mp hy);exact XA.bool_bool b k
theorem HV:MtR X "list.count" (λx xs H Q=>∃(p:i_) (bs:List Bool) (k:Bool),x=.ref p/\xs=[.bl k]/\SqL X.K H p (bs.map V.bl)/\Q (.int (bs.count k:Nat)) H):=by
 intro aa s Z H x xs v us Q I rx rs h;obtain⟨p,bs,k,rfl,rfl,hq,q⟩:=h;cases rx;obtain⟨u,rfl,ru⟩:=vals1 rs;cases ru;obtain⟨ac,rv,⟨o,n,ho,hc,hd,hs⟩,hz⟩:=I.list hq;have:=BA rv;subst this;obtain⟨cls,qz,data,sl⟩:=o;simp only at hc hd hs;subst hc hd hs;refine UO PySem.F.slot_list_count ⟨_,ho,rfl⟩ PySem.F.entry_list_count (PySem.F.args_list_count_2 _ _) (list_countAt p (bs.map b_.bool).toArray n _ sl (.bool k) (WA k)) ⟨ho,λy hy=>FD y hy _ _,?_⟩
 have e:(bs.map b_.bool).toArray.toList.countP (WA k)=bs.count k:=by
  rw[show(bs.map b_.bool).toArray.toList=bs.map b_.bool from rfl,List.countP_map];rfl
 rw[e];exact⟨.int _,H,I.tok _,⟨_,rfl⟩,q⟩
theorem Jv:MtR X "list.index" (λx xs H Q=>∃(p:i_) (bs:List Bool) (k:Bool) (j:Nat),x=.ref p/\xs=[.bl k]/\SqL X.K H p (bs.map V.bl)/\bs.length<=1000/\bs[j]?=some k/\(∀m,m < j->bs[m]?=some !k)/\Q (.int (j:Nat)) H):=by
 intro aa s Z H x xs v us Q I rx rs h;obtain⟨p,bs,k,j,rfl,rfl,hq,hl,h1,h2,q⟩:=h;cases rx;obtain⟨u,rfl,ru⟩:=vals1 rs;cases ru;obtain⟨ac,rv,⟨o,n,ho,hc,hd,hs⟩,hz⟩:=I.list hq;have:=BA rv;subst this;obtain⟨cls,qz,data,sl⟩:=o;simp only at hc hd hs;subst hc hd hs;obtain⟨hj,e1⟩:=o_.mp h1;refine UO PySem.F.slot_list_index ⟨_,ho,rfl⟩ PySem.F.entry_list_index (PySem.F.args_list_index_2 _ _) (list_indexAt p (bs.map b_.bool).toArray n _ sl (.bool k) (WA k) j (by simpa using hj) (by omega) (by simp[e1,WA]) λm hm lt=>?_) ⟨ho,λy hy=>FD y hy _ _,⟨.int _,H,I.tok _,⟨_,rfl⟩,q⟩⟩;obtain⟨dF,e2⟩:=o_.mp (h2 m lt);simp[e2,WA]
noncomputable def cbF(a:D)(ds:List D):Option D:=match a,ds with
 | .lst xs,[.bl k]=>match blsD xs with
  | some bs=>some (.int (bs.count k:Nat))
  | none=>none
 | _,_=>none
noncomputable def ixB(k:Bool):Nat->List Bool->Option Nat
 | _,[]=>none
 | n,b::bs=>if b=k then some n else ixB k (n+1) bs
theorem Fo{k:Bool}:∀{bs:List Bool}{n j:Nat},ixB k n bs=some j->n<=j/\bs[j - n]?=some k/\∀m,m < j - n->bs[m]?=some !k
 | [],n,j,h=>by cases h
 | b::bs,n,j,h=>by
  rw[ixB] at h;by_cases z:b=k
  ·rw[if_pos z] at h;cases h;subst z;exact⟨w_ _,by simp,λm hm=>by omega⟩
  ·rw[if_neg z] at h;obtain⟨h1,h2,h3⟩:=Fo h;have e:j - n=(j - (n+1))+1:=by omega
   refine⟨by omega,by rw[e,Te];exact h2,λm hm=>?_⟩;cases m with
   | zero=>cases b<;>cases k<;>simp at z ⊢
   | succ m=>rw[Te];exact h3 m (by omega)
noncomputable def ibF(a:D)(ds:List D):Option D:=match a,ds with
 | .lst xs,[.bl k]=>match blsD xs with
  | some bs=>if bs.length<=1000 then(ixB k 0 bs).map λj=>.int (j:Nat) else none
  | none=>none
 | _,_=>none
noncomputable def mbV(F:D->List D->Option D)(i:Nat)(t:M (List D)):M D:=bnd (nm i) λa=>bnd t λds=>lft (F a ds)
theorem KW(hv:ED X B (.Name z p1) (nm i))(ha:AD X B [e] t)(bJ:TZ (.Name z p1) "count" X.env (eval (.Name z p1) X.env)=eval (.Name z p1) X.env:=by rfl)(cb:((R4 aB (e_ [e] X.env)).all (λx=>!x.1)&&(Wi aB (UX [] X.env)).all (λx=>x.1.isSome)&&decide ([e].length+([]:List Ux).length+(if([]:List Ux).isEmpty then 0 else 1) < 30))=true:=by rfl)(bK:(aU.endLine == aB.line)=true:=by rfl)(hs:e_ [e] X.env=(false,eval e X.env)::e_ [] X.env:=by rfl)(bn:(R4 aB (e_ [] X.env)).any (·.1)=false:=by rfl):
  ED X B (.Call (.Attribute (.Name z p1) "count" aU) [e] [] aB) (mbV cbF i t):=
 PE.imp (wN Ua PySem.F.slot_list_count PySem.F.type_list_count HV hv ha bJ cb bK hs bn) λZ H Q q=>by
  obtain⟨G,I,Γ,d,ae,r,e1,k⟩:=q;obtain⟨d1,Γ1,e2,e3⟩:=rK e1;obtain⟨ds,Γ2,e4,e5⟩:=rK e3;obtain⟨e6,rfl⟩:=sW e5;unfold cbF at e6;split at e6
  ·rename_i xs n;split at e6
   ·rename_i bs en;cases e6;refine⟨G,I,Γ,_,Γ1,r,e2,λv H1 I1 r1 g1 h1=>?_⟩;rw[xP en] at h1;have h0:=h1;obtain⟨q,zs,rfl,h3,h4⟩:=sU h1;have:=xJ h4;subst this;refine⟨.inl ⟨rfl,_,(Same.rdK r1.iH h3).sq⟩,G,I1,Γ1,_,_,r1,e4,λvs H2 I2 r2 g2 h2=>?_⟩;obtain⟨w,rfl,hw⟩:=h2.one;rw[tY hw];obtain⟨q',dQ,e',i3,i4⟩:=sU (h0.mono g2.up);cases e';have:=xJ i4;subst this;exact⟨q,bs,n,rfl,rfl,(Same.rdK r2.iH i3).sq,k _ _ _ r2 (g1.trans g2) (Is.int _)⟩
   ·cases e6
  ·cases e6
theorem JM(hv:ED X B (.Name z p1) (nm i))(ha:AD X B [e] t)(bJ:TZ (.Name z p1) "index" X.env (eval (.Name z p1) X.env)=eval (.Name z p1) X.env:=by rfl)(cb:((R4 aB (e_ [e] X.env)).all (λx=>!x.1)&&(Wi aB (UX [] X.env)).all (λx=>x.1.isSome)&&decide ([e].length+([]:List Ux).length+(if([]:List Ux).isEmpty then 0 else 1) < 30))=true:=by rfl)(bK:(aU.endLine == aB.line)=true:=by rfl)(hs:e_ [e] X.env=(false,eval e X.env)::e_ [] X.env:=by rfl)(bn:(R4 aB (e_ [] X.env)).any (·.1)=false:=by rfl):
  ED X B (.Call (.Attribute (.Name z p1) "index" aU) [e] [] aB) (mbV ibF i t):=
 PE.imp (wN Ua PySem.F.slot_list_index PySem.F.type_list_index Jv hv ha bJ cb bK hs bn) λZ H Q q=>by
  obtain⟨G,I,Γ,d,ae,r,e1,k⟩:=q;obtain⟨d1,Γ1,e2,e3⟩:=rK e1;obtain⟨ds,Γ2,e4,e5⟩:=rK e3;obtain⟨e6,rfl⟩:=sW e5;unfold ibF at e6;split at e6
  ·rename_i xs n;split at e6
   ·rename_i bs en;by_cases ok:bs.length<=1000
    ·rw[if_pos ok,Q_] at e6;obtain⟨j,ej,rfl⟩:=e6;obtain⟨_,j1,j2⟩:=Fo ej;refine⟨G,I,Γ,_,Γ1,r,e2,λv H1 I1 r1 g1 h1=>?_⟩;rw[xP en] at h1;have h0:=h1;obtain⟨q,zs,rfl,h3,h4⟩:=sU h1;have:=xJ h4;subst this;refine⟨.inl ⟨rfl,_,(Same.rdK r1.iH h3).sq⟩,G,I1,Γ1,_,_,r1,e4,λvs H2 I2 r2 g2 h2=>?_⟩;obtain⟨w,rfl,hw⟩:=h2.one;rw[tY hw];obtain⟨q',dQ,e',i3,i4⟩:=sU (h0.mono g2.up);cases e';have:=xJ i4;subst this;exact⟨q,bs,n,j,rfl,rfl,(Same.rdK r2.iH i3).sq,ok,j1,j2,k _ _ _ r2 (g1.trans g2) (Is.int _)⟩
    ·rw[if_neg ok] at e6;cases e6
   ·cases e6
  ·cases e6
end
end DL
namespace DL
open PySem PySem.W PySem.Spec PyProof.Rows L2
section
variable{B:BB}{a b:RW}{gb:M D}
noncomputable def rTimes(K:PySem.W.Frag):R2:=λx y H Q=>∃l xs k,x=.ref l/\y=.int k/\RdK K H l xs/\(0<=k/\k<=100/\xs.length<=1000)/\∀p,H p=none->Q (.ref p) (upd H p (.lst (F_ k.toNat xs).flatten))
theorem Md:OpR X (S3 .Mult) (rTimes X.K):=by
 intro aa s Z H x y v u Q I rx ry h;obtain⟨l,xs,k,rfl,rfl,hR,⟨k0,k1,hx⟩,q⟩:=h;cases rx;obtain⟨tk,rfl⟩:=ry;obtain⟨_,ac,n,r,hl,e⟩:=zA I hR;have ti:ac.toArray.size<=1000:=by rw[p_,←hl];exact hx
 have cj:ac.toArray.size*k.toNat<=1000*100:=Nat.mul_le_mul ti (by omega);have self:s.TypeIs (.ref l) "list":=⟨_,e,rfl⟩;have made:=lm_list_mul_any l ac.toArray n none #[] k tk (by simp[S1.List.listFitsIndex];omega) (by omega) (by rw[p_] at cj;simp[Wk,A_];omega);have il:=lm_int_rmul_list_any k tk l ac.toArray n none #[];have nY:s.TypeIs (.int k tk) "int":=XS s k tk;refine wpAny_binaryOp_repeat_ref (T:= "list") (U:= "int") (by decide) self (λz=>XS z k tk) noFill_list_mul F.fills_int_mul F.slot_int_rmul repeat_list F.slot_int_index.lookup ?_;refine UO F.slot_int_rmul nY F.entry_int_rmul (F.args_int_rmul_2 _ _) il ⟨e,rfl,self,?_⟩;refine UO F.slot_list_mul self F.entry_list_mul (F.args_list_mul_2 _ _) made ⟨e,?_⟩;rw[listMul_foldl_if]
 have rl:(F_ k.toNat xs).flatten.length<=A_:=by
  rw[L2.N7,hl,Nat.mul_comm,←p_];exact y_ cj (by decide)
 exact⟨.ref _,_,I.lnew (t':=s.toks) (r.rep k.toNat) rl,rfl,q _ I.fresh⟩
theorem IsA.times{K:PySem.W.Frag}(h:IsA K I ds xs):∀k:Nat,IsA K I (F_ k ds).flatten (F_ k xs).flatten
 | 0=>IsA.nil
 | k+1=>by
  rw[Uy,Uy,Vb,Vb];exact IsA.append h (h.times k)
noncomputable def timesF(a b:D):Option (List D):=match a,b with
 | .lst ds,.int k=>if 0<=k/\k<=100/\ds.length<=1000 then some (F_ k.toNat ds).flatten else none
 | _,_=>none
theorem xM(ha:ED X B a ga)(hb:ED X B b gb):EO X B (.BinOp a .Mult b pos) (op2 timesF ga gb):=CB Md (λa b d e B G I H Z Γ x y Q r hx hy k=>by
 unfold timesF at e;split at e
 ·rename_i ds n;obtain⟨ok,rfl⟩:=tG e;obtain⟨p,xs,rfl,h1,h2⟩:=sU hx;rw[sQ hy];exact⟨p,xs,n,rfl,rfl,Same.rdK r.iH h1,⟨ok.1,ok.2.1,by rw[←h2.length];exact ok.2.2⟩,λp' hp=>k.new r hp (h2.times _)⟩
 ·cases e) ha hb
end
noncomputable def metL(ns:List Int):List Int:=X8 (λi=>ns.getD i 0) ns.length
theorem Dd(f:Nat->Int):∀k,(∀i,i < k+1->f i=f 0)->X8 f (k+1)=[f 0]
 | 0,_=>rfl
 | k+1,h=>by
  rw[firstMet_succ,Dd f k λi hi=>h i (by omega),h (k+1) (by omega)];unfold step_dedup;simp
theorem DK(f:Nat->Int):∀k i,i < k->f i∈X8 f k
 | 0,_,h=>by omega
 | k+1,i,h=>by
  rw[firstMet_succ];unfold step_dedup
  rcases Nat.lt_or_eq_of_le (Vy h) with h | rfl
  ·have:=DK f k i h;split
   ·exact this
   ·exact Sk _ this
  ·split
   ·rename_i z;obtain⟨x,hx,e⟩:=Sg.mp z;rw[←beq_iff_eq.mp e];exact hx
   ·exact M_ _ (s_.mpr rfl)
section
variable{B:BB}{kr:Nat}
def rLA(X:Cx)(xs:List V)(H:Hp)(Q:VK):Prop:=∃(p:i_) (ns:List Int),xs=[.ref p]/\SqL X.K H p (ns.map V.int)/\ns.length < 1000/\Q (.int (metL ns).length) H
theorem JZ{p:Pos}{t:TA}(hr:Room kr X.A)(hg:Gl X "len")(hm:X.mg "len"=none)(ei:Gl X "set")(dF:X.mg "set"=none)(ha:PA X [e] t)(he:e_ [e] X.env=(false,eval e X.env)::e_ [] X.env:=by rfl)(cL:e_ [.Call (.Name "set" p') [e] [] aE] X.env=(false,eval (.Call (.Name "set" p') [e] [] aE) X.env)::e_ [] X.env:=by rfl)(aC:∀pos,(R4 pos (e_ [] X.env)).any (·.1)=false:=by intros;rfl):
  PE X (.Call (.Name "len" p) [.Call (.Name "set" p') [e] [] aE] [] pos) (tCB (rLA X) t):=by
 intro aa s Z H Q I h;refine Sv (uu I hg hm boot_len (Tb ?_ cL (aC _)) (by decide) (by decide));rw[cL];refine Ug (Sv (uu I ei dF boot_set (N_ ?_ he (aC _)) (by decide) (by decide)));refine thn (ha aE aa s Z H _ I h) λus s1 ⟨vs,H1,I1,r1,p,ns,e1,q1,q3,q4⟩=>?_
 subst e1;obtain⟨u,rfl,ru⟩:=vals1 r1;cases ru;obtain⟨ac,rv,tl,hz⟩:=I1.list q1;have ln:ac.length=ns.length:=by rw[←rv.length,q_]
 refine PySem.call_set_list (ns:=ns) hr.hd tl.isList (by simpa using EU rv) (by rw[p_,ln];show ns.length+1 < 4096;omega) λh' tk hS hk=>Uw ?_
 have kP:ac.toArray.size=ns.length:=by rw[p_,ln]
 rw[kP] at hS;rw[show X8 (λi=>ns.getD i 0) ns.length=metL ns from rfl] at hS;have ml:(metL ns).length<=ns.length:=firstMet_length_le _ _;obtain⟨o,es,ep,tb,ho,hex,hd,-,-,-,hf,dM⟩:=hS;have ex:Ext s1 { s1 with heap:=h',toks:=tk }:=⟨h',tk,rfl,λb o x=>hk b o (E_ x) x⟩;refine call_len_set (s:={ s1 with heap:=h',toks:=tk }) ho hex hd hf (by rw[dM];exact W1 (show((metL ns).length:Int) < 1000 by omega) (by decide)) ?_;have I2:=ex.inv I1;refine⟨.int (metL ns).length,H1,?_,by rw[dM];exact⟨_,rfl⟩,q4⟩;exact I2.tok _
noncomputable def lsA(ds:List D):Option D:=match ds with
 | [.lst xs]=>match intsD xs with
  | some ns=>if ns.length < 1000 then some (.int (metL ns).length) else none
  | none=>none
 | _=>none
theorem HE(l:ns.length < 1000):lsA [.lst (ns.map D.int)]=some (.int (metL ns).length):=by
 unfold lsA;simp only[CS];exact if_pos l
theorem NT{p:Pos}(hr:Room kr X.A)(hg:Gl X "len")(hm:X.mg "len"=none)(ei:Gl X "set")(dF:X.mg "set"=none)(ha:AD X B [e] t)(he:e_ [e] X.env=(false,eval e X.env)::e_ [] X.env:=by rfl)(cL:e_ [.Call (.Name "set" p') [e] [] aE] X.env=(false,eval (.Call (.Name "set" p') [e] [] aE) X.env)::e_ [] X.env:=by rfl)(aC:∀pos,(R4 pos (e_ [] X.env)).any (·.1)=false:=by intros;rfl):
  ED X B (.Call (.Name "len" p) [.Call (.Name "set" p') [e] [] aE] [] pos) (fn1 lsA t):=PE.imp (JZ hr hg hm ei dF ha he cL aC) (t_fn λds d e B G I H Z Γ xs Q r h k=>by
 unfold lsA at e;split at e
 ·rename_i ys;split at e
  ·rename_i ns en;obtain⟨ok,rfl⟩:=tG e;obtain⟨x,rfl,hx⟩:=h.one;obtain⟨q,zs,rfl,h3,h4⟩:=sU hx;rw[Fn en] at h4;have:=Do h4;subst this;exact⟨q,ns,rfl,(Same.rdK r.iH h3).sq,ok,k.now r (Is.int _)⟩
  ·cases e
 ·cases e)
end
end DL
namespace DL
open PySem L2
variable {α β:Type}
def wp(m:M α)(Γ:Gm)(Q:α->Gm->Prop):Prop:=∃a ae,m Γ=some (a,ae)/\Q a ae
def wpF(g:List R->Option (R×List R))(rs:List R)(Q:R->List R->Prop):Prop:=∃r bi,g rs=some (r,bi)/\Q r bi
def wpB(g:List R->Option (R×List R))(c ds:List D)(Q:R->List D->Prop):Prop:=∃r c',bcF g c ds=some (r,c')/\Q r c'
section
variable{Q:α->Gm->Prop}{QD:D->Gm->Prop}{QL:List D->Gm->Prop}{QB:Bool->Gm->Prop}{QS:Fl->Gm->Prop}{QU:Unit->Gm->Prop}
theorem wp.mono{m:M α}{Q':α->Gm->Prop}(h:wp m Γ Q)(f:∀a Γ,Q a Γ->Q' a Γ):wp m Γ Q':=by
 obtain⟨a,ae,e,q⟩:=h;exact⟨a,ae,e,f _ _ q⟩
@[simp ↓] theorem wE{a:α}:wp (ret a) Γ Q↔Q a Γ:=by
 constructor
 ·rintro⟨b,ae,e,q⟩;cases e;exact q
 ·intro q;exact⟨_,_,rfl,q⟩
@[simp ↓] theorem tV{β:Type}{m:M β}{f:β->M α}:wp (bnd m f) Γ Q↔wp m Γ λb Γ1=>wp (f b) Γ1 Q:=by
 constructor
 ·rintro⟨a,ae,e,q⟩;obtain⟨b,Γ1,e1,e2⟩:=rK e;exact⟨b,Γ1,e1,a,ae,e2,q⟩
 ·rintro⟨b,Γ1,e1,a,ae,e2,q⟩;exact⟨a,ae,by unfold bnd;rw[e1];exact e2,q⟩
@[simp ↓] theorem IA{a:α}:wp (lft (some a)) Γ Q↔Q a Γ:=by
 constructor
 ·rintro⟨b,ae,e,q⟩;cases e;exact q
 ·intro q;exact⟨_,_,rfl,q⟩
theorem Ah{o:Option α}{a:α}(h:o=some a):wp (lft o) Γ Q↔Q a Γ:=by rw[h,IA]
@[simp ↓] theorem Re:wp (nm i) Γ QD↔match Γ[i]? with
  | some (some (.val d))=>QD d Γ
  | some (some (.own ds))=>QD (.lst ds) (Γ.set i (some (.val (.lst ds))))
  | some (some (.fro ds))=>QD (.lst ds) Γ
  | _=>False:=by
 unfold wp nm
 rcases e:Γ[i]? with _ | _ | r
 ·simp
 ·simp
 ·cases r<;>simp<;>exact⟨λ⟨_,_,⟨h1,h2⟩,q⟩=>by subst h1;subst h2;exact q,λq=>⟨_,_,⟨rfl,rfl⟩,q⟩⟩
@[simp ↓] theorem xh{F:D->D->Option α}{a b:M D}:wp (op2 F a b) Γ Q↔wp a Γ λx Γ1=>wp b Γ1 λy Γ2=>wp (lft (F x y)) Γ2 Q:=by simp[op2]
@[simp ↓] theorem Rt{F:List D->Option α}:wp (fn1 F t) Γ Q↔wp t Γ λds Γ1=>wp (lft (F ds)) Γ1 Q:=by simp[fn1]
@[simp ↓] theorem Q5:wp nilA Γ QL↔QL [] Γ:=by simp[nilA]
@[simp ↓] theorem Ol{g:M D}:wp (consA g t) Γ QL↔wp g Γ λd Γ1=>wp t Γ1 λds Γ2=>QL (d::ds) Γ2:=by simp[consA]
@[simp ↓] theorem Rf:wp (tupA t) Γ QD↔wp t Γ λds Γ1=>wp (lft (if ds.length<=lim then some (.tup ds) else none)) Γ1 QD:=by simp[tupA]
@[simp ↓] theorem Mq:wp (lstA t) Γ QL↔wp t Γ λds Γ1=>wp (lft (if ds.length<=lim then some ds else none)) Γ1 QL:=by simp[lstA]
@[simp ↓] theorem DB:wp (frz t) Γ QD↔wp t Γ λds Γ1=>QD (.lst ds) Γ1:=by simp[frz]
@[simp ↓] theorem Qk{g:M D}:wp (tst g) Γ QB↔wp g Γ λd Γ1=>wp (lft (asB d)) Γ1 QB:=by simp[tst]
@[simp] theorem Q7{b:Bool}:asB (.bl b)=some b:=rfl
@[simp] theorem RN{b:Int}:asI (.int b)=some b:=rfl
@[simp ↓] theorem Qg{F:D->D->Option D}{a b c:M D}:wp (chn F F' a b c) Γ QD↔wp a Γ λx Γ1=>wp b Γ1 λy Γ2=>wp (lft (F x y)) Γ2 λz aM=>wp (lft (asB z)) aM λk aP=>if k=true then wp c aP λw eG=>wp (lft (F' y w)) eG QD else QD (.bl false) aP:=by
 simp only[chn,tV]
 constructor<;>(intro h;refine h.mono λx Γ1 h=>h.mono λy Γ2 h=>h.mono λz aM h=>h.mono λk aP h=>?_)<;>(cases k<;>simpa using h)
@[simp ↓] theorem Rv{a b:M Bool}:wp (andT a b) Γ QB↔wp a Γ λk Γ1=>if k=true then wp b Γ1 QB else QB false Γ1:=by
 simp only[andT,tV]
 constructor<;>(intro h;refine h.mono λk Γ1 h=>?_)<;>(cases k<;>simpa using h)
@[simp ↓] theorem Ri{a b:M Bool}:wp (orT a b) Γ QB↔wp a Γ λk Γ1=>if k=true then QB true Γ1 else wp b Γ1 QB:=by
 simp only[orT,tV]
 constructor<;>(intro h;refine h.mono λk Γ1 h=>?_)<;>(cases k<;>simpa using h)
@[simp ↓] theorem QK{a:M Bool}:wp (notT a) Γ QB↔wp a Γ λk Γ1=>QB (!k) Γ1:=by simp[notT]
@[simp ↓] theorem Rk{a b:M D}:wp (andV a b) Γ QD↔wp a Γ λd Γ1=>wp (lft (asB d)) Γ1 λk Γ2=>if k=true then wp b Γ2 QD else QD (.bl false) Γ2:=by
 simp only[andV,tV]
 constructor<;>(intro h;refine h.mono λd Γ1 h=>h.mono λk Γ2 h=>?_)<;>(cases k<;>simpa using h)
@[simp ↓] theorem Qn{a b:M D}:wp (ifV c a b) Γ QD↔wp c Γ λk Γ1=>if k=true then wp a Γ1 QD else wp b Γ1 QD:=by
 simp only[ifV,tV]
 constructor<;>(intro h;refine h.mono λk Γ1 h=>?_)<;>(cases k<;>simpa using h)
theorem Gu{a b:M Fl}:wp (seqS a b) Γ QS↔wp a Γ λf Γ1=>match f with
  | .nx=>wp b Γ1 QS
  | .rt r=>QS (.rt r) Γ1
  | .bk=>QS .bk Γ1
  | .ct=>QS .ct Γ1:=by
 simp only[seqS,tV]
 constructor<;>(intro h;refine h.mono λf Γ1 h=>?_)<;>(cases f<;>simpa using h)
@[simp ↓] theorem QA{a:M D}:wp (dropS a) Γ QS↔wp a Γ λ_ Γ1=>QS .nx Γ1:=by simp[dropS]
@[simp ↓] theorem RF{a:M D}:wp (retS a) Γ QS↔wp a Γ λd Γ1=>QS (.rt (.val d)) Γ1:=by simp[retS]
@[simp ↓] theorem QG{a:M (List D)}:wp (retO a) Γ QS↔wp a Γ λd Γ1=>QS (.rt (.own d)) Γ1:=by simp[retO]
@[simp ↓] theorem CT{a b:M Fl}:wp (ifS c a b) Γ QS↔wp c Γ λk Γ1=>if k=true then wp a Γ1 QS else wp b Γ1 QS:=by
 simp only[ifS,tV]
 constructor<;>(intro h;refine h.mono λk Γ1 h=>?_)<;>(cases k<;>simpa using h)
@[simp ↓] theorem PZ{q:R}:wp (putS i q) Γ QU↔i < Γ.length/\QU () (Γ.set i (some q)):=by
 unfold wp putS;constructor
 ·rintro⟨a,ae,e,h⟩;obtain⟨h1,h2⟩:=tG e;cases h2;exact⟨h1,h⟩
 ·rintro⟨h1,h2⟩;exact⟨(),_,by rw[if_pos h1],h2⟩
@[simp ↓] theorem Qo:wp (tgN i d) Γ QU↔i < Γ.length/\QU () (Γ.set i (some (.val d))):=by simp[tgN]
@[simp ↓] theorem Qh:wp (tgNil []) Γ QU↔QU () Γ:=by simp[tgNil]
@[simp ↓] theorem RK{f:D->M Unit}{t:List D->M Unit}:wp (tgCons f t (d::ds)) Γ QU↔wp (f d) Γ λ_ Γ1=>wp (t ds) Γ1 QU:=by simp[tgCons]
@[simp ↓] theorem Qe{t:List D->M Unit}:wp (tgTup n t (.tup ds)) Γ QU↔ds.length=n/\wp (t ds) Γ QU:=by
 unfold tgTup;by_cases h:ds.length=n
 ·simp[h]
 ·simp only[h,if_false,false_and,iff_false];rintro⟨_,_,e,_⟩;cases e
@[simp ↓] theorem Nh{g:M D}{f:D->M Unit}:wp (asgS g f) Γ QS↔wp g Γ λd Γ1=>wp (f d) Γ1 λ_ Γ2=>QS .nx Γ2:=by simp[asgS]
@[simp ↓] theorem u3{g:M D}:wp (setV i g) Γ QS↔wp g Γ λd Γ1=>i < Γ1.length/\QS .nx (Γ1.set i (some (.val d))):=by simp[setV]
@[simp ↓] theorem Rx{g:M (List D)}:wp (setO i g) Γ QS↔wp g Γ λd Γ1=>i < Γ1.length/\QS .nx (Γ1.set i (some (.own d))):=by simp[setO]
@[simp ↓] theorem vY{m:M α}:wp (mutS i m) Γ Q↔isMut Γ i=true/\wp m Γ Q:=by
 unfold mutS wp;by_cases h:isMut Γ i=true
 ·simp[h]
 ·simp[h]
@[simp ↓] theorem Ro:wp (wr i F) Γ QU↔match Γ[i]? with
  | some (some (.own ds))=>∃es,F ds=some es/\QU () (Γ.set i (some (.own es)))
  | some (some (.bor ds))=>∃es,F ds=some es/\QU () (Γ.set i (some (.bor es)))
  | _=>False:=by
 unfold wp wr
 rcases e:Γ[i]? with _ | _ | r
 ·simp
 ·simp
 ·cases r with
  | val d=>simp
  | fro d=>simp
  | dic d=>simp
  | own ds =>
   rcases he:F ds with _ | es
   ·simp[he]
   ·simp[he];exact⟨λ⟨_,q⟩=>q,λq=>⟨(),q⟩⟩
  | bor ds =>
   rcases he:F ds with _ | es
   ·simp[he]
   ·simp[he];exact⟨λ⟨_,q⟩=>q,λq=>⟨(),q⟩⟩
@[simp ↓] theorem Q6{g:M D}:wp (appS i g) Γ QS↔isMut Γ i=true/\wp g Γ λd Γ1=>wp (wr i (appF d)) Γ1 λ_ Γ2=>QS .nx Γ2:=by simp only[appS,vY,tV,wE]
@[simp ↓] theorem Ql{g:M D}:wp (extS i g) Γ QS↔isMut Γ i=true/\wp g Γ λd Γ1=>wp (wr i (extF d)) Γ1 λ_ Γ2=>QS .nx Γ2:=by simp only[extS,vY,tV,wE]
@[simp ↓] theorem Rl{gi gv:M D}:wp (stS i gi gv) Γ QS↔wp gv Γ λd Γ1=>isMut Γ1 i=true/\wp gi Γ1 λn Γ2=>wp (lft (asI n)) Γ2 λk aM=>wp (wr i (stF k d)) aM λ_ aP=>QS .nx aP:=by simp only[stS,vY,tV,wE]
@[simp ↓] theorem Rp:wp (look i) Γ QD↔match Γ[i]? with
  | some (some (.own ds))=>QD (.lst ds) Γ
  | some (some (.bor ds))=>QD (.lst ds) Γ
  | _=>False:=by
 unfold wp look
 rcases e:Γ[i]? with _ | _ | r
 ·simp
 ·simp
 ·cases r<;>simp<;>exact⟨λ⟨_,_,⟨h1,h2⟩,q⟩=>by subst h1;subst h2;exact q,λq=>⟨_,_,⟨rfl,rfl⟩,q⟩⟩
@[simp ↓] theorem QE{g:M D}:wp (atN i g) Γ QD↔isMut Γ i=true/\wp g Γ λn Γ1=>wp (look i) Γ1 λl Γ2=>wp (lft (ixF l n)) Γ2 QD:=by simp only[atN,vY,tV]
@[simp ↓] theorem RC:wp (lenN i) Γ QD↔wp (look i) Γ λl Γ2=>wp (lft (lenF [l])) Γ2 QD:=by simp only[lenN,tV]
@[simp ↓] theorem RB{g:M D}{QO:Option Int->Gm->Prop}:wp (prt g) Γ QO↔wp g Γ λd Γ1=>wp (lft (asI d)) Γ1 λi Γ2=>QO (some i) Γ2:=by simp[prt]
@[simp ↓] theorem QZ{F:D->Option Int->Option Int->Option α}{g:M D}:wp (sl3 F g gl gh) Γ Q↔wp g Γ λd Γ1=>wp gl Γ1 λl Γ2=>wp gh Γ2 λh aM=>wp (lft (F d l h)) aM Q:=by simp[sl3]
@[simp ↓] theorem Rs{g:M D}:wp (itS g) Γ QL↔wp g Γ λd Γ1=>wp (lft (seqI d)) Γ1 QL:=by simp[itS]
@[simp ↓] theorem RT:wp (forS it az body) Γ QS↔wp it Γ λds Γ1=>wp (forM az body ds) Γ1 QS:=by simp[forS]
@[simp ↓] theorem Qq{g:List R->Option (R×List R)}{QR:R->Gm->Prop}:wp (callB i g t) Γ QR↔isMut Γ i=true/\wp t Γ λds Γ1=>match Γ1[i]? with
  | some (some (.own c))=>wpB g c ds λr c'=>QR r (Γ1.set i (some (.own c')))
  | some (some (.bor c))=>wpB g c ds λr c'=>QR r (Γ1.set i (some (.bor c')))
  | _=>False:=by
 simp only[callB,vY,tV];refine and_congr_right λ_=>?_
 have bq:∀(ds:List D) (Γ1:Gm),wp (λΓ:Gm=>match Γ[i]? with
   | some (some (.own c))=>match bcF g c ds with
    | some (r,c')=>some (r,Γ.set i (some (.own c')))
    | none=>none
   | some (some (.bor c))=>match bcF g c ds with
    | some (r,c')=>some (r,Γ.set i (some (.bor c')))
    | none=>none
   | _=>none) Γ1 QR↔(match Γ1[i]? with
  | some (some (.own c))=>wpB g c ds λr c'=>QR r (Γ1.set i (some (.own c')))
  | some (some (.bor c))=>wpB g c ds λr c'=>QR r (Γ1.set i (some (.bor c')))
  | _=>False):=by
  intro ds Γ1;unfold wp wpB;dsimp only
  rcases e:Γ1[i]? with _ | _ | r
  ·simp
  ·simp
  ·cases r with
   | val d=>simp
   | fro d=>simp
   | dic d=>simp
   | own c =>
    rcases he:bcF g c ds with _ | ⟨r,c'⟩
    ·simp[he]
    ·simp only[he];constructor
     ·rintro⟨a,b,h,q⟩;cases h;exact⟨_,_,rfl,q⟩
     ·rintro⟨a,b,h,q⟩;cases h;exact⟨_,_,rfl,q⟩
   | bor c =>
    rcases he:bcF g c ds with _ | ⟨r,c'⟩
    ·simp[he]
    ·simp only[he];constructor
     ·rintro⟨a,b,h,q⟩;cases h;exact⟨_,_,rfl,q⟩
     ·rintro⟨a,b,h,q⟩;cases h;exact⟨_,_,rfl,q⟩
 constructor
 ·intro h;exact h.mono λds Γ1 h=>(bq ds Γ1).mp h
 ·intro h;exact h.mono λds Γ1 h=>(bq ds Γ1).mpr h
@[simp ↓] theorem Ru{g:List R->Option (R×List R)}:wp (cbV i g t) Γ QD↔wp (callB i g t) Γ λr Γ1=>wp (lft (asV r)) Γ1 QD:=by simp only[cbV,tV]
@[simp] theorem Qm:asV (.val d)=some d:=rfl
@[simp] theorem QX{d:List D}:asO (.own d)=some d:=rfl
theorem FP(J:Nat->Gm->Prop)(h0:J 0 Γ)(hs:∀(i:Nat) (d:D) (Γ:Gm),ds[i]?=some d->J i Γ->wp (az d) Γ λ_ Γ1=>wp body Γ1 λf Γ2=>match f with
   | .nx=>J (i+1) Γ2
   | .ct=>J (i+1) Γ2
   | .bk=>QS .nx Γ2
   | .rt r=>QS (.rt r) Γ2)(hd:∀Γ,J ds.length Γ->QS .nx Γ):wp (forM az body ds) Γ QS:=by
 have bq:∀(n:Nat) (es:List D) (Γ:Gm) (i:Nat),es.length=n->ds.drop i=es->i<=ds.length->J i Γ->wp (forM az body es) Γ QS:=by
  intro n
  induction n with
  | zero =>
   intro es Γ i hl he hi hj;have:es=[]:=Sw.mp hl;subst this
   have cC:i=ds.length:=by
    have:=congrArg length he;rw[TH] at this;simp at this;omega
   subst cC;exact⟨_,_,rfl,hd Γ hj⟩
  | succ n ih =>
   intro es Γ i hl he hi hj;cases es with
   | nil=>simp at hl
   | cons d es =>
    have bD:i < ds.length:=by
     have:=congrArg length he;rw[TH,R8] at this;omega
    have ik:ds.drop i=ds[i]::ds.drop (i+1):=R7 bD;rw[ik] at he;injection he with e1 e2
    have cx:ds[i]?=some d:=by rw[g_ bD,e1]
    have step:=hs i d Γ cx hj;rw[forM,tV];refine step.mono λ_ Γ1 h1=>?_
    rw[tV];refine h1.mono λf Γ2 h2=>?_
    cases f with
    | nx=>exact ih es Γ2 (i+1) (by simpa using hl) e2 bD h2
    | ct=>exact ih es Γ2 (i+1) (by simpa using hl) e2 bD h2
    | bk=>exact⟨_,_,rfl,h2⟩
    | rt r=>exact⟨_,_,rfl,h2⟩
 exact bq ds.length ds Γ 0 rfl rfl (Sh _) h0
theorem DS{rs:List R}{QR:R->List R->Prop}(hl:rs.length=ar)(h:wp body (rs.map some++F_ (n - rs.length) none) λf ae=>∃r,flR f=some r/\∃l,fin rs ae=some l/\QR r l):wpF (fnD n ar body) rs QR:=by
 obtain⟨f,ae,e,r,e1,l,e2,q⟩:=h;refine⟨r,l,?_,q⟩;unfold fnD;rw[if_pos hl];unfold fnD1;rw[e];simp only[e1,e2]
theorem KU{g:List R->Option (R×List R)}(h:wpF g (ds.map .val) λr _=>r=.val d):cvF g ds=some d:=by
 obtain⟨r,bi,e,rfl⟩:=h;unfold cvF;rw[e]
theorem H0{g:List R->Option (R×List R)}{P:List D->Prop}(h:wpF g (ds.map .val) λr _=>∃d,r=.own d/\P d):∃d,coF g ds=some d/\P d:=by
 obtain⟨r,bi,e,d,rfl,hp⟩:=h;exact⟨d,by unfold coF;rw[e],hp⟩
theorem HM{g:List R->Option (R×List R)}{c:List D}{QR:R->List D->Prop}(h:wpF g (.bor c::ds.map .val) λr bi=>∃c' t,bi=.bor c'::t/\QR r c'):wpB g c ds QR:=by
 obtain⟨r,bi,e,c',t,rfl,q⟩:=h;exact⟨r,c',by unfold bcF;rw[e],q⟩
end
end DL
namespace DL
open PySem L2
section
variable{α:Type}{Q:α->Gm->Prop}{QD:D->Gm->Prop}{QL:List D->Gm->Prop}{i j:Int}
@[simp ↓] theorem u4{c:Prop}[Decidable c]{a:α}:wp (lft (if c then some a else none)) Γ Q↔c/\Q a Γ:=by
 by_cases h:c
 ·simp[h]
 ·simp only[h,if_false,false_and,iff_false];rintro⟨_,_,e,_⟩;cases e
@[simp ↓] theorem Qj:wp (λ_=>(none:Option (α×Gm))) Γ Q↔False:=by
 simp only[iff_false];rintro⟨_,_,e,_⟩;cases e
@[simp] theorem QN:subI (.int i) (.int j)=some (.int (i - j)):=rfl
@[simp] theorem Qr:addF (.int i) (.int j)=some (.int (i+j)):=rfl
@[simp] theorem f_lt:ltI (.int i) (.int j)=some (.bl (decide (i < j))):=rfl
@[simp] theorem f_le:leI (.int i) (.int j)=some (.bl (decide (i<=j))):=rfl
@[simp] theorem f_gt:gtI (.int i) (.int j)=some (.bl (decide (j < i))):=rfl
@[simp] theorem f_ge:geI (.int i) (.int j)=some (.bl (decide (j<=i))):=rfl
@[simp ↓] theorem Qw:wp (lft (modI (.int i) (.int j))) Γ QD↔0 < j/\QD (.int (i % j)) Γ:=by simp[modI,intF]
@[simp ↓] theorem RQ:wp (lft (divI (.int i) (.int j))) Γ QD↔(0 < j/\j < 2 ^ 200)/\QD (.int (i / j)) Γ:=by simp only[divI,intF,decide_eq_true_eq,u4]
@[simp ↓] theorem RH:wp (lft (mulI (.int i) (.int j))) Γ QD↔((-(2 ^ 64) < i/\i < 2 ^ 64)\/(-(2 ^ 64) < j/\j < 2 ^ 64))/\QD (.int (i*j)) Γ:=by simp only[mulI,intF,decide_eq_true_eq,u4]
@[simp ↓] theorem Ry:wp (lft (powI (.int i) (.int j))) Γ QD↔(0<=j/\j<=1000000/\i.natAbs < 2 ^ 64)/\QD (.int (i ^ j.toNat)) Γ:=by simp only[powI,intF,decide_eq_true_eq,u4]
@[simp] theorem Qt:ixF (.lst ds) (.int i)=atI ds i:=rfl
@[simp] theorem Qy:ixF (.tup ds) (.int i)=atI ds i:=rfl
theorem uV{α:Type}{ds:List α}:atI ds (n:Int)=ds[n]?:=by
 unfold atI ixN;rw[if_pos (by omega)];by_cases h:(n:Int) < ds.length
 ·rw[if_pos h];simp
 ·rw[if_neg h];have:ds.length<=n:=by omega
  simp[TQ this]
@[simp] theorem LW{α:Type}{a:α}{ds:List α}:atI (a::ds) 0=some a:=by
 rw[show(0:Int)=((0:Nat):Int) from rfl,uV];rfl
@[simp] theorem QV{α:Type}{a b:α}{ds:List α}:atI (a::b::ds) 1=some b:=by
 rw[show(1:Int)=((1:Nat):Int) from rfl,uV];rfl
@[simp] theorem RR{α:Type}{a b c:α}{ds:List α}:atI (a::b::c::ds) 2=some c:=by
 rw[show(2:Int)=((2:Nat):Int) from rfl,uV];rfl
theorem Ai{α:Type}{ds:List α}{i:Int}(h0:0<=i)(h1:i < ds.length):∃a,atI ds i=some a/\a∈ds:=by
 obtain⟨n,rfl⟩:=Th h0;have h:n < ds.length:=by omega
 exact⟨ds[n],by rw[uV,g_ h],Sf h⟩
@[simp] theorem Rj{a b:D}:stF 1 d (a::b::ds)=some (a::d::ds):=by
 unfold stF ixN;rw[if_pos (by omega),if_pos (by simp;omega)];rfl
@[simp] theorem QW{a b c:D}:stF 2 d (a::b::c::ds)=some (a::b::d::ds):=by
 unfold stF ixN;rw[if_pos (by omega),if_pos (by simp;omega)];rfl
@[simp] theorem Q1:lenF [.lst ds]=some (.int ds.length):=rfl
@[simp] theorem QP:lenF [.tup ds]=some (.int ds.length):=rfl
@[simp] theorem RJ:minF [.int i,.int j]=some (.int (min i j)):=by
 unfold minF;dsimp only;congr 2;split<;>omega
@[simp] theorem Qf:maxF [.int i,.int j]=some (.int (max i j)):=by
 unfold maxF;dsimp only;congr 2;split<;>omega
@[simp] theorem Qv:tupF [.lst ds]=some (.tup ds):=rfl
@[simp] theorem QM:tupF [.tup ds]=some (.tup ds):=rfl
@[simp] theorem Qx:lstF [.lst ds]=some ds:=rfl
@[simp] theorem RP:lstF [.tup ds]=some ds:=rfl
@[simp] theorem O7:seqI (.lst ds)=some ds:=rfl
@[simp] theorem QQ:seqI (.tup ds)=some ds:=rfl
@[simp] theorem Rh{b:Bool}:reprF [.bl b]=some (.str (if b then "True" else "False")):=rfl
@[simp] theorem Qi{lo:Option Int}:slF (.lst ds) lo hi=some (.lst (cutD ds lo hi)):=rfl
@[simp] theorem QC{xs:List D}:zipI [.lst xs,.lst ys]=some (pairsD xs ys):=rfl
@[simp] theorem Rb{xs:List D}:zipI [.tup xs,.tup ys]=some (pairsD xs ys):=rfl
@[simp] theorem RE{xs:List D}:enumI [.lst xs]=some (numD 0 xs):=rfl
@[simp] theorem Rz{xs:List D}:enumI [.tup xs]=some (numD 0 xs):=rfl
@[simp ↓] theorem Rw:wp (lft (rngI1 [.int j])) Γ QL↔(-1000000<=j/\j<=1000000)/\QL (rngD 0 j.toNat) Γ:=by simp only[rngI1,u4]
@[simp ↓] theorem Q9:wp (lft (rngI2 [.int i,.int j])) Γ QL↔((-1000000<=i/\i<=1000000)/\-1000000<=j/\j<=1000000)/\QL (rngD i (j - i).toNat) Γ:=by simp only[rngI2,u4]
@[simp ↓] theorem RU{a b:D}:wp (lft (eqF neg a b)) Γ QD↔(dep a<=100/\dep b<=100)/\QD (.bl (if neg then !deq a b else deq a b)) Γ:=by simp only[eqF,u4]
@[simp ↓] theorem RI{xs:List D}:wp (lft (catF (.lst xs) (.lst ys))) Γ QL↔xs.length+ys.length<=lim/\QL (xs++ys) Γ:=by simp only[catF,u4]
@[simp ↓] theorem RL{xs:List D}:wp (lft (addF (.tup xs) (.tup ys))) Γ QD↔xs.length+ys.length<=lim/\QD (.tup (xs++ys)) Γ:=by simp only[addF,u4]
@[simp] theorem Ra{a:Int}:dep (.int a)=0:=by simp[dep]
@[simp] theorem RM{a:Str}:dep (.str a)=0:=by simp[dep]
@[simp] theorem Rr:dep (.lst [])=1:=by simp[dep,depA]
@[simp] theorem QJ{a b:Str}:deq (.str a) (.str b)=(a == b):=by simp[deq]
@[simp] theorem uK{a b:Int}:deq (.int a) (.int b)=(a == b):=by simp[deq]
@[simp] theorem Gr:deq (.lst ds) (.lst [])=ds.isEmpty:=by cases ds<;>simp[deq,deqA]
@[simp] theorem RA{a b:Bool}:deq (.str (if a then "True" else "False")) (.str (if b then "True" else "False"))=(a == b):=by cases a<;>cases b<;>decide
@[simp] theorem G2:lim=1000000:=rfl
theorem yA{d:Nat}:HT.sIx n d (some (k:Int))=min k n:=by
 show(if(k:Int) < 0 then((k:Int)+(n:Int)).toNat else min (k:Int).toNat n)=min k n;rw[if_neg (by omega),T4]
theorem Dr:cutD ds none (some (n:Int))=ds.take n:=by
 unfold cutD;rw[yA,HT.zC];simp
theorem Bi:cutD ds (some (n:Int)) none=ds.drop n:=by
 unfold cutD;rw[yA,HT.zC,List.take_of_length_le (by simp)];by_cases h:n<=ds.length
 ·rw[Nat.min_eq_left h]
 ·rw[Nat.min_eq_right (by omega),Uz (w_ _),Uz (by omega)]
theorem NU(h:n < ds.length):slF (.tup ds) none (some (n:Int))=some (.tup (ds.take n)):=by
 unfold slF;dsimp only;rw[yA,HT.zC,if_neg (by omega),Dr]
theorem JA(h:0 < ds.length)(h1:0 < n):slF (.tup ds) (some (n:Int)) none=some (.tup (ds.drop n)):=by
 unfold slF;dsimp only;rw[yA,HT.zC,if_neg (by omega),Bi]
@[simp] theorem Qd{P:List D->Prop}:(∃es,appF d ds=some es/\P es)↔ds.length < 1000000/\P (ds++[d]):=by
 unfold appF;rw[G2];by_cases h:ds.length < 1000000<;>simp[h]
@[simp] theorem Q2{xs:List D}{P:List D->Prop}:(∃es,extF (.lst xs) ds=some es/\P es)↔ds.length+xs.length<=1000000/\P (ds++xs):=by
 unfold extF;rw[G2];by_cases h:ds.length+xs.length<=1000000<;>simp[h]
theorem sK{a b:M Fl}{QS:Fl->Gm->Prop}(h:∀K:Fl->Gm->Prop,(∀Γ1,wp b Γ1 QS->K .nx Γ1)->(∀r Γ1,QS (.rt r) Γ1->K (.rt r) Γ1)->wp a Γ K):wp (seqS a b) Γ QS:=by
 rw[Gu];exact h _ (λ_ h=>h) (λ_ _ h=>h)
theorem wF{a b:M Fl}{QS:Fl->Gm->Prop}(P:Gm->Prop)(h:∀K:Fl->Gm->Prop,(∀Γ1,P Γ1->K .nx Γ1)->(∀r Γ1,QS (.rt r) Γ1->K (.rt r) Γ1)->wp a Γ K)(h2:∀Γ1,P Γ1->wp b Γ1 QS):wp (seqS a b) Γ QS:=by
 rw[Gu];exact h _ (λ_ p=>h2 _ p) (λ_ _ h=>h)
theorem ud{QS:Fl->Gm->Prop}(J:Nat->Gm->Prop)(h0:J 0 Γ)(hs:∀(i:Nat) (d:D) (Γ:Gm),ds[i]?=some d->J i Γ->∀K:Fl->Gm->Prop,(∀Γ2,J (i+1) Γ2->K .nx Γ2)->(∀Γ2,J (i+1) Γ2->K .ct Γ2)->(∀Γ2,QS .nx Γ2->K .bk Γ2)->(∀r Γ2,QS (.rt r) Γ2->K (.rt r) Γ2)->wp (az d) Γ λ_ Γ1=>wp body Γ1 K)(hd:∀Γ,J ds.length Γ->QS .nx Γ):wp (forM az body ds) Γ QS:=
 FP J h0 (λi d Γ h j=>hs i d Γ h j _ (λ_ h=>h) (λ_ h=>h) (λ_ h=>h) (λ_ _ h=>h)) hd
theorem uP{rs:List R}{QR:R->List R->Prop}(hl:rs.length=ar)(h:∀K:Fl->Gm->Prop,(∀r ae,(∃l,fin rs ae=some l/\QR r l)->K (.rt r) ae)->(∀ae,(∃l,fin rs ae=some l/\QR (.val .non) l)->K .nx ae)->wp body (rs.map some++F_ (n - rs.length) none) K):wpF (fnD n ar body) rs QR:=
 DS hl (h _ (λr _ h=>⟨r,rfl,h⟩) (λ_ h=>⟨_,rfl,h⟩))
theorem Aj{c:List D}{QR:R->List D->Prop}(hl:ds.length+1=ar)(h:∀K:Fl->Gm->Prop,(∀r c' ae,(∃t,fin (ds.map .val) ae=some t)->QR r c'->K (.rt r) (some (.bor c')::ae))->(∀c' ae,(∃t,fin (ds.map .val) ae=some t)->QR (.val .non) c'->K .nx (some (.bor c')::ae))->wp body ((.bor c::ds.map .val).map some++F_ (n - (ds.length+1)) none) K):wpB (fnD n ar body) c ds QR:=by
 refine HM (uP (by simpa using hl) λK k1 k2=>?_);refine(by simpa using h K (λr c' ae ⟨t,e⟩ q=>k1 r _ ⟨_,by simp[fin,e],c',t,rfl,q⟩) (λc' ae ⟨t,e⟩ q=>k2 _ ⟨_,by simp[fin,e],c',t,rfl,q⟩))
theorem DQ{α:Type}{ts:M Bool}(xs:List α)(f:α->D)(p:α->Bool)(v:α->D)(h:wp it Γ λds Γ1=>ds=xs.map f/\xs.length<=1000000/\(∀x∈xs,∀cs:Gm,cs.length=m->wp (az (f x)) (cs++Γ1) λ_ Γ2=>wp ts Γ2 λb aM=>b=p x/\(if b=true then wp el aM λy aP=>y=v x/\∃cP,cP.length=m/\aP=cP++Γ1 else ∃cP,cP.length=m/\aM=cP++Γ1)) ∧
   QL ((xs.filter p).map v) Γ1):wp (compO m it az ts el) Γ QL:=by
 unfold compO;rw[tV];refine h.mono λds Γ1 ⟨fT,hl,hp,hq⟩=>?_
 subst fT;rw[if_pos (by simpa using hl)]
 have bq:∀(es:List α) (cs:Gm),(∀d∈es,d∈xs)->cs.length=m->∃cP,cP.length=m/\compM az ts el (es.map f) (cs++Γ1)=some ((es.filter p).map v,cP++Γ1):=by
  intro es
  induction es with
  | nil=>intro cs _ hc;exact⟨cs,hc,rfl⟩
  | cons d es ih =>
   intro cs hm hc;obtain⟨u,Γ2,e1,b,aM,e2,hb,h3⟩:=hp d (hm d m_) cs hc;have dF:∀d∈es,d∈xs:=λd hd=>hm d (j_ _ hd)
   cases b with
   | false =>
    rw[if_neg l_] at h3;obtain⟨cP,aW,rfl⟩:=h3;obtain⟨lO,dY,e3⟩:=ih cP dF aW;refine⟨lO,dY,?_⟩;rw[G_,compM];unfold bnd;simp only[e1,e2,T7,if_false];rw[e3,U4,←hb];simp
   | true =>
    rw[if_pos rfl] at h3;obtain⟨x,aP,e4,rfl,cP,aW,rfl⟩:=h3;obtain⟨lO,dY,e3⟩:=ih cP dF aW;refine⟨lO,dY,?_⟩;rw[G_,compM];unfold bnd;simp only[e1,e2,if_true,e4];rw[e3,U4,←hb];rfl
 obtain⟨cP,aW,e⟩:=bq xs (F_ m none) (λ_ h=>h) (by simp);refine⟨_,_,?_,hq⟩;unfold inC;rw[e];simp[aW,List.drop_append]
theorem uA{α:Type}{ts:M Bool}(xs:List α)(f:α->D)(p:α->Bool)(v:α->D)(h:wp it Γ λds Γ1=>ds=xs.map f/\xs.length<=1000000/\(∀x∈xs,∀a,wp (az (f x)) (a::Γ1) λ_ Γ2=>wp ts Γ2 λb aM=>b=p x/\(if b=true then wp el aM λy aP=>y=v x/\∃a',aP=a'::Γ1 else ∃a',aM=a'::Γ1)) ∧
   QL ((xs.filter p).map v) Γ1):wp (compO 1 it az ts el) Γ QL:=by
 refine DQ xs f p v (h.mono λds Γ1 ⟨h1,h2,h3,h4⟩=>⟨h1,h2,λx hx cs hc=>?_,h4⟩);obtain⟨a,rfl⟩:=List.length_eq_one_iff.mp hc;refine(h3 x hx a).mono λ_ Γ2 h=>h.mono λb aM ⟨h5,h6⟩=>⟨h5,?_⟩
 cases b with
 | true=>simp only[if_true] at h6 ⊢;exact h6.mono λy aP ⟨h7,a',h8⟩=>⟨h7,[a'],rfl,h8⟩
 | false=>simp only[T7,if_false] at h6 ⊢;obtain⟨a',h8⟩:=h6;exact⟨[a'],rfl,h8⟩
theorem wx{α:Type}{ts:M Bool}(xs:List α)(f:α->D)(p:α->Bool)(v:α->D)(h:wp it Γ λds Γ1=>ds=xs.map f/\xs.length<=1000000/\(∀x∈xs,∀a b,wp (az (f x)) (a::b::Γ1) λ_ Γ2=>wp ts Γ2 λb aM=>b=p x/\(if b=true then wp el aM λy aP=>y=v x/\∃a' b',aP=a'::b'::Γ1 else ∃a' b',aM=a'::b'::Γ1)) ∧
   QL ((xs.filter p).map v) Γ1):wp (compO 2 it az ts el) Γ QL:=by
 refine DQ xs f p v (h.mono λds Γ1 ⟨h1,h2,h3,h4⟩=>⟨h1,h2,λx hx cs hc=>?_,h4⟩)
 obtain⟨a,b,rfl⟩:∃a b,cs=[a,b]:=by
  match cs,hc with
  | [a,b],_=>exact⟨a,b,rfl⟩
 refine(h3 x hx a b).mono λ_ Γ2 h=>h.mono λb aM ⟨h5,h6⟩=>⟨h5,?_⟩
 cases b with
 | true=>simp only[if_true] at h6 ⊢;exact h6.mono λy aP ⟨h7,a',b',h8⟩=>⟨h7,[a',b'],rfl,h8⟩
 | false=>simp only[T7,if_false] at h6 ⊢;obtain⟨a',b',h8⟩:=h6;exact⟨[a',b'],rfl,h8⟩
theorem ug(hl:ds.length=ar)(h:∀K:Fl->Gm->Prop,(∀ae,(∃l,fin (ds.map .val) ae=some l)->K (.rt (.val d)) ae)->(∀ae,d=.non->(∃l,fin (ds.map .val) ae=some l)->K .nx ae)->wp body ((ds.map .val).map some++F_ (n - ds.length) none) K):cvF (fnD n ar body) ds=some d:=by
 refine KU (uP (by simpa using hl) λK k1 k2=>?_);have:=h K (λae ⟨l,e⟩=>k1 _ _ ⟨l,e,rfl⟩) (λae hd ⟨l,e⟩=>k2 _ ⟨l,e,by rw[hd]⟩);simpa using this
theorem E1{α:Type}{f:α->Bool}{xs:List α}:blsD (xs.map λx=>.bl (f x))=some (xs.map f):=by
 induction xs with
 | nil=>rfl
 | cons x xs ih=>simp only[G_,blsD,ih]
theorem Et{α:Type}{f:α->Bool}{xs:List α}:allF [.lst (xs.map λx=>.bl (f x))]=some (.bl (xs.all f)):=by
 unfold allF;simp only[E1];simp[X9]
theorem Px{α:Type}{f:α->Bool}{xs:List α}:anyF [.lst (xs.map λx=>.bl (f x))]=some (.bl (xs.any f)):=by
 unfold anyF;simp only[E1];simp[X9]
theorem zG{α β:Type}{f:α->D}{g:β->D}{xs:List α}{ys:List β}:pairsD (xs.map f) (ys.map g)=(xs.zip ys).map λq=>.tup [f q.1,g q.2]:=by
 unfold pairsD
 induction xs generalizing ys with
 | nil=>rfl
 | cons x xs ih =>
  cases ys with
  | nil=>rfl
  | cons y ys=>simp only[G_,Tv,ih]
end
section
variable{α:Type}{Q:α->Gm->Prop}{QD:D->Gm->Prop}{QL:List D->Gm->Prop}{i j:Int}
theorem N5{xs:List D}(h:SetOk xs)(qA:(dd xs).length<=18)(k:xs.all fstI=true\/xs.all fstT=true):setF [.lst xs]=some (sortD (dd xs)):=by
 unfold setF;exact if_pos ⟨⟨h.1,h.2.1,h.2.2.1,h.2.2.2.1,qA⟩,k⟩
theorem EL{xs:List D}(h:SortOk xs):sortF [.lst xs]=some (sortD xs):=by
 unfold sortF;exact if_pos h
theorem LD(ds:List D):∀d∈ds,(dd ds).any (λe=>deq e d)=true:=by
 have bq:∀(ds ag:List D),(∀d,ag.any (λe=>deq e d)=true->(ds.foldl dstep ag).any (λe=>deq e d)=true)/\∀d∈ds,(ds.foldl dstep ag).any (λe=>deq e d)=true:=by
  intro ds
  induction ds with
  | nil=>exact λag=>⟨λd h=>h,λd h=>by cases h⟩
  | cons c ds ih =>
   intro ag;obtain⟨h1,h2⟩:=ih (dstep ag c)
   have st:∀d,ag.any (λe=>deq e d)=true->(dstep ag c).any (λe=>deq e d)=true:=λd h=>by
    unfold dstep;split
    ·exact h
    ·rw[List.any_append,h];rfl
   refine⟨λd h=>h1 d (st d h),λd h=>?_⟩
   rcases B_.mp h with rfl | h
   ·refine h1 d ?_;unfold dstep;split
    ·assumption
    ·rw[List.any_append];simp[vG]
   ·exact h2 d h
 exact(bq ds []).2
theorem CK(ds:List D):(dd ds).length<=ds.length:=by
 have bq:∀(ds ag:List D),(ds.foldl dstep ag).length<=ag.length+ds.length:=by
  intro ds
  induction ds with
  | nil=>exact λag=>w_ _
  | cons c ds ih =>
   intro ag;have:=ih (dstep ag c)
   have:(dstep ag c).length<=ag.length+1:=by
    unfold dstep;split
    ·omega
    ·simp
   rw[X6,R8];omega
 have:=bq ds [];simpa[dd] using this
end
end DL
namespace DL
theorem yC{α:Type}:∀(l m:List α),l.Nodup->(∀x∈l,x∈m)->l.length<=m.length
 | [],m,_,_=>Sh _
 | x::l,m,nd,h=>by
  obtain⟨a,b,rfl⟩:=W0 (h x m_);rw[SL] at nd
  have:=yC l (a++b) nd.2 (λy hy=>by
   have:=h y (j_ _ hy)
   rcases P_.mp this with z | z
   ·exact(Sk _ z)
   ·rcases B_.mp z with z | z
    ·subst z;exact absurd hy nd.1
    ·exact(M_ _ z))
  simp at this ⊢;omega
theorem vc{os:List D}(hl:ds.length=ar)(h:∀K:Fl->Gm->Prop,(∀ae,(∃l,fin (ds.map .val) ae=some l)->K (.rt (.own os)) ae)->wp body ((ds.map .val).map some++F_ (n - ds.length) none) K):coF (fnD n ar body) ds=some os:=by
 have w:wpF (fnD n ar body) (ds.map .val) λr _=>r=.own os:=uP (by simpa using hl) λK k1 _=>by
  have:=h K (λae ⟨l,e⟩=>k1 _ _ ⟨l,e,rfl⟩);simpa using this
 obtain⟨r,bi,e,rfl⟩:=w;unfold coF;rw[e]
section
variable{QS:Fl->Gm->Prop}{QL:List D->Gm->Prop}
@[simp ↓] theorem QT:wp (froS j) Γ QL↔match Γ[j]? with
  | some (some (.fro ds))=>QL ds Γ
  | _=>False:=by
 unfold wp froS
 rcases e:Γ[j]? with _ | _ | r
 ·simp
 ·simp
 ·cases r<;>simp<;>exact⟨λ⟨_,_,⟨h1,h2⟩,q⟩=>by subst h1;subst h2;exact q,λq=>⟨_,_,⟨rfl,rfl⟩,q⟩⟩
@[simp ↓] theorem Rg{g:M (List D)}:wp (setY i g) Γ QS↔wp g Γ λd Γ1=>i < Γ1.length/\QS .nx (Γ1.set i (some (.fro d))):=by simp[setY]
@[simp ↓] theorem Q0:wp (cpS i j) Γ QS↔wp (froS j) Γ λd Γ1=>i < Γ1.length/\QS .nx (Γ1.set i (some (.fro d))):=by simp only[cpS,tV,PZ,wE]
@[simp ↓] theorem Rq:wp (retY j) Γ QS↔wp (froS j) Γ λd Γ1=>QS (.rt (.fro d)) Γ1:=by simp only[retY,tV,wE]
theorem M7{os:List D}(hl:ds.length=ar)(no:noLA os=true)(h:∀K:Fl->Gm->Prop,(∀ae,(∃l,fin (ds.map .val) ae=some l)->K (.rt (.fro os)) ae)->wp body ((ds.map .val).map some++F_ (n - ds.length) none) K):coF (fnD n ar body) ds=some os:=by
 have w:wpF (fnD n ar body) (ds.map .val) λr _=>r=.fro os:=uP (by simpa using hl) λK k1 _=>by
  have:=h K (λae ⟨l,e⟩=>k1 _ _ ⟨l,e,rfl⟩);simpa using this
 obtain⟨r,bi,e,rfl⟩:=w;unfold coF;rw[e];exact if_pos no
end
end DL
namespace Own
open PySem PySem.Spec PyProof.Rows L2 DL
noncomputable def BL:M Fl:=
 (forS (itS (nm 0)) (tgN 1)
  (ifS (tst (op2 (eqF true) (fn1 lenF (consA (nm 1) nilA)) (fn1 lenF (consA (op2 ixF (nm 0) (ret (.int 0))) nilA))))
  (λ_=>none) (ret .nx)))
noncomputable def tZ:List R->Option (R×List R):=fnD 2 1 BL
noncomputable def Hn:M Nat:=
 (forX (itS (nm 0)) (tgN 1)
  (ifS (tst (op2 (eqF true) (fn1 lenF (consA (nm 1) nilA)) (fn1 lenF (consA (op2 ixF (nm 0) (ret (.int 0))) nilA))))
  (λ_=>none) (ret .nx)) (ifX (tst (op2 (eqF true) (fn1 lenF (consA (nm 1) nilA)) (fn1 lenF (consA (op2 ixF (nm 0) (ret (.int 0))) nilA))))
  (raX 0 (consA (ret (.str "letters and wishes of unlike many fields")) nilA)) nvX))
noncomputable def v5:List D->Option Nat:=fnE 2 1 Hn
noncomputable def Ch:M Fl:=
 (seqS (dropS (fn1 (cvF tZ) (consA (frz (lstA (consA (nm 0) (consA (nm 1) nilA)))) nilA)))
  (retS (fn1 allF (consA (frz (compO 2 (fn1 zipI (consA (nm 0) (consA (nm 1) nilA))) (tgTup 2 (tgCons (tgN 0) (tgCons (tgN 1) tgNil))) (ret true) (chn leI leI (op2 ixF (nm 0) (ret (.int 0))) (nm 1) (op2 ixF (nm 0) (ret (.int 1)))))) nilA))))
noncomputable def vF:List R->Option (R×List R):=fnD 2 2 Ch
noncomputable def Br:M Fl:=
 (seqS (dropS (fn1 (cvF tZ) (consA (frz (lstA (consA (nm 0) (consA (nm 1) nilA)))) nilA)))
  (retS (fn1 allF (consA (frz (compO 2 (fn1 zipI (consA (nm 0) (consA (nm 1) nilA))) (tgTup 2 (tgCons (tgN 0) (tgCons (tgN 1) tgNil))) (ret true) (andV (op2 leI (op2 ixF (nm 0) (ret (.int 0))) (op2 ixF (nm 1) (ret (.int 0)))) (op2 leI (op2 ixF (nm 1) (ret (.int 1))) (op2 ixF (nm 0) (ret (.int 1))))))) nilA))))
noncomputable def xk:List R->Option (R×List R):=fnD 2 2 Br
noncomputable def AN:M Fl:=
 (seqS (dropS (fn1 (cvF tZ) (consA (frz (lstA (consA (nm 0) (consA (nm 1) nilA)))) nilA)))
  (seqS (setO 2 (lstA nilA))
  (seqS (forS (fn1 zipI (consA (nm 0) (consA (nm 1) nilA))) (tgTup 2 (tgCons (tgN 3) (tgCons (tgN 4) tgNil)))
  (seqS (setV 5 (fn1 maxF (consA (op2 ixF (nm 3) (ret (.int 0))) (consA (op2 ixF (nm 4) (ret (.int 0))) nilA))))
  (seqS (setV 6 (fn1 minF (consA (op2 ixF (nm 3) (ret (.int 1))) (consA (op2 ixF (nm 4) (ret (.int 1))) nilA))))
  (seqS (ifS (tst (op2 gtI (nm 5) (nm 6)))
  (retS (ret .non)) (ret .nx))
  (appS 2 (tupA (consA (nm 5) (consA (nm 6) nilA))))))))
  (retS (fn1 tupF (consA (nm 2) nilA))))))
noncomputable def xR:List R->Option (R×List R):=fnD 7 2 AN
noncomputable def Bt:M Fl:=
 (retS (fn1 anyF (consA (frz (compO 1 (itS (nm 0)) (tgN 0) (ret true) (andV (op2 (eqF true) (nm 0) (nm 2)) (fn1 (cvF xk) (consA (nm 0) (consA (nm 2) nilA)))))) nilA)))
noncomputable def zh:List R->Option (R×List R):=fnD 2 2 Bt
noncomputable def A5:M Fl:=
 (seqS (dropS (fn1 (cvF tZ) (consA (nm 0) nilA)))
  (seqS (setV 1 (frz (fn1 setF (consA (nm 0) nilA))))
  (retO (compO 1 (itS (nm 1)) (tgN 0) (notT (tst (fn1 (cvF zh) (consA (nm 2) (consA (nm 0) nilA))))) (nm 0)))))
noncomputable def wB:List R->Option (R×List R):=fnD 2 1 A5
noncomputable def CH:M Nat:=
 (fnX v5 (consA (nm 0) nilA))
noncomputable def wT:List D->Option Nat:=fnE 2 1 CH
noncomputable def AG:M Fl:=
 (seqS (setO 2 (lstA nilA))
  (seqS (forS (fn1 enumI (consA (nm 1) nilA)) (tgTup 2 (tgCons (tgN 3) (tgCons (tgN 4) tgNil)))
  (forS (itS (nm 0)) (tgN 5)
  (seqS (ifS (tst (op2 ltI (op2 ixF (nm 4) (ret (.int 0))) (op2 ixF (op2 ixF (nm 5) (nm 3)) (ret (.int 0)))))
  (appS 2 (tupA (consA (nm 3) (consA (op2 subI (op2 ixF (op2 ixF (nm 5) (nm 3)) (ret (.int 0))) (ret (.int 1))) nilA)))) (ret .nx))
  (ifS (tst (op2 ltI (op2 ixF (op2 ixF (nm 5) (nm 3)) (ret (.int 1))) (op2 ixF (nm 4) (ret (.int 1)))))
  (appS 2 (tupA (consA (nm 3) (consA (op2 ixF (op2 ixF (nm 5) (nm 3)) (ret (.int 1))) nilA)))) (ret .nx)))))
  (retS (fn1 minlF (consA (nm 2) nilA)))))
noncomputable def yF:List R->Option (R×List R):=fnD 6 2 AG
noncomputable def BY:M Fl:=
 (seqS (setV 3 (sl3 slF (nm 0) (ret none) (prt (nm 1))))
  (seqS (setV 4 (sl3 slF (nm 0) (prt (op2 addF (nm 1) (ret (.int 1)))) (ret none)))
  (seqS (setV 5 (op2 ixF (op2 ixF (nm 0) (nm 1)) (ret (.int 0))))
  (seqS (setV 6 (op2 ixF (op2 ixF (nm 0) (nm 1)) (ret (.int 1))))
  (retS (tupA (consA (op2 addF (op2 addF (nm 3) (tupA (consA (tupA (consA (nm 5) (consA (nm 2) nilA))) nilA))) (nm 4)) (consA (op2 addF (op2 addF (nm 3) (tupA (consA (tupA (consA (op2 addF (nm 2) (ret (.int 1))) (consA (nm 6) nilA))) nilA))) (nm 4)) nilA))))))))
noncomputable def ze:List R->Option (R×List R):=fnD 7 3 BY
noncomputable def yR(g:List R->Option (R×List R)):M Fl:=
 (seqS (setV 3 (frz (compO 1 (itS (nm 1)) (tgN 0) (tst (op2 (isNF true) (fn1 (cvF xR) (consA (op2 ixF (nm 1) (nm 0)) (consA (nm 3) nilA))) (ret .non))) (nm 0))))
  (seqS (ifS (tst (op2 (eqF false) (fn1 lenF (consA (nm 3) nilA)) (ret (.int 0))))
  (retS (tupA (consA (ret (.str "out")) (consA (fn1 tupF (consA (frz (compO 1 (itS (nm 2)) (tgN 0) (ret true) (op2 ixF (nm 0) (ret (.int 0))))) nilA)) nilA)))) (ret .nx))
  (seqS (forS (itS (nm 3)) (tgN 4)
  (ifS (tst (fn1 (cvF xk) (consA (op2 ixF (nm 0) (nm 4)) (consA (nm 2) nilA))))
  (retS (tupA (consA (ret (.str "in")) (consA (tupA (consA (ret (.str "by")) (consA (nm 4) nilA))) nilA)))) (ret .nx)))
  (seqS (setV 5 (fn1 (cvF yF) (consA (frz (compO 1 (itS (nm 3)) (tgN 0) (ret true) (op2 ixF (nm 1) (nm 0)))) (consA (nm 2) nilA))))
  (seqS (setV 6 (fn1 (cvF ze) (consA (nm 2) (consA (op2 ixF (nm 5) (ret (.int 0))) (consA (op2 ixF (nm 5) (ret (.int 1))) nilA)))))
  (seqS (setV 7 (fn1 (cvF g) (consA (nm 0) (consA (nm 3) (consA (op2 ixF (nm 6) (ret (.int 0))) nilA)))))
  (seqS (ifS (tst (op2 (eqF false) (op2 ixF (nm 7) (ret (.int 0))) (ret (.str "out"))))
  (retS (nm 7)) (ret .nx))
  (seqS (setV 8 (fn1 (cvF g) (consA (nm 0) (consA (nm 3) (consA (op2 ixF (nm 6) (ret (.int 1))) nilA)))))
  (seqS (ifS (tst (op2 (eqF false) (op2 ixF (nm 8) (ret (.int 0))) (ret (.str "out"))))
  (retS (nm 8)) (ret .nx))
  (retS (tupA (consA (ret (.str "in")) (consA (tupA (consA (ret (.str "cut")) (consA (op2 ixF (nm 5) (ret (.int 0))) (consA (op2 ixF (nm 5) (ret (.int 1))) (consA (op2 ixF (nm 7) (ret (.int 1))) (consA (op2 ixF (nm 8) (ret (.int 1))) nilA)))))) nilA)))))))))))))
noncomputable def vA:Nat->List R->Option (R×List R)
 | 0=>λ_=>none
 | k+1=>fnD 9 3 (yR (vA k))
noncomputable def AS:M Fl:=
 (seqS (dropS (fn1 (cvF tZ) (consA (frz (op2 catF (frz (lstA (consA (nm 1) nilA))) (nm 0))) nilA)))
  (retS (fn1 (cvF (vA 40)) (consA (nm 0) (consA (frz (fn1 rngI1 (consA (fn1 lenF (consA (nm 0) nilA)) nilA))) (consA (nm 1) nilA))))))
noncomputable def xz:List R->Option (R×List R):=fnD 2 2 AS
noncomputable def yN:M Fl:=
 (seqS (setY 1 (fn1 (coF wB) (consA (nm 0) nilA)))
  (seqS (cpS 2 1)
  (seqS (forS (itS (nm 1)) (tgN 3)
  (seqS (setY 4 (compO 1 (itS (nm 2)) (tgN 0) (tst (op2 (eqF true) (nm 0) (nm 4))) (nm 0)))
  (ifS (tst (op2 (eqF false) (op2 ixF (fn1 (cvF xz) (consA (nm 4) (consA (nm 3) nilA))) (ret (.int 0))) (ret (.str "in"))))
  (cpS 2 4) (ret .nx))))
  (retY 2))))
noncomputable def xu:List R->Option (R×List R):=fnD 5 1 yN
noncomputable def F1:M Nat:=
 (fnX wT (consA (nm 0) nilA))
noncomputable def yU:List D->Option Nat:=fnE 5 1 F1
noncomputable def B0:M Fl:=
 (ifS (notT (tst (chn leI ltI (ret (.int 0)) (nm 1) (op2 ixF (nm 0) (ret (.int 0))))))
  (λ_=>none) (ret .nx))
noncomputable def uo:List R->Option (R×List R):=fnD 2 2 B0
noncomputable def Dl:M Nat:=
 (ifX (notT (tst (chn leI ltI (ret (.int 0)) (nm 1) (op2 ixF (nm 0) (ret (.int 0))))))
  (raX 1 (consA (un1 (f1F "there is no house ") (nm 1)) nilA)) nvX)
noncomputable def u6:List D->Option Nat:=fnE 2 2 Dl
noncomputable def BJ:M Fl:=
 (seqS (dropS (fn1 (cvF uo) (consA (nm 0) (consA (nm 1) nilA))))
  (retO (fn1 sortF (consA (frz (compO 1 (itS (op2 ixF (nm 0) (ret (.int 1)))) (tgN 0) (tst (op2 (inF false) (nm 2) (nm 0))) (ifV (tst (op2 (eqF false) (op2 ixF (nm 0) (ret (.int 0))) (nm 2))) (op2 ixF (nm 0) (ret (.int 1))) (op2 ixF (nm 0) (ret (.int 0)))))) nilA))))
noncomputable def uR:List R->Option (R×List R):=fnD 2 2 BJ
noncomputable def E6:M Nat:=
 (fnX u6 (consA (nm 0) (consA (nm 1) nilA)))
noncomputable def zk:List D->Option Nat:=fnE 2 2 E6
noncomputable def BP:M Fl:=
 (seqS (dropS (fn1 (cvF uo) (consA (nm 0) (consA (nm 1) nilA))))
  (seqS (dropS (fn1 (cvF uo) (consA (nm 0) (consA (nm 2) nilA))))
  (ifS (tst (op2 (inF true) (nm 2) (frz (fn1 (coF uR) (consA (nm 0) (consA (nm 1) nilA))))))
  (λ_=>none) (ret .nx))))
noncomputable def xa:List R->Option (R×List R):=fnD 3 3 BP
noncomputable def FT:M Nat:=
 (orX (fnX u6 (consA (nm 0) (consA (nm 1) nilA))) (thenX (dropS (fn1 (cvF uo) (consA (nm 0) (consA (nm 1) nilA))))
  (orX (fnX u6 (consA (nm 0) (consA (nm 2) nilA))) (thenX (dropS (fn1 (cvF uo) (consA (nm 0) (consA (nm 2) nilA))))
  (ifX (tst (op2 (inF true) (nm 2) (frz (fn1 (coF uR) (consA (nm 0) (consA (nm 1) nilA))))))
  (raX 2 (consA (op2 (f2F "there is no road between " " and ") (nm 1) (nm 2)) nilA)) nvX)))))
noncomputable def wU:List D->Option Nat:=fnE 3 3 FT
noncomputable def y8(g:List R->Option (R×List R)):M Fl:=
 (seqS (ifS (tst (op2 (eqF false) (nm 2) (nm 3)))
  (retO (lstA (consA (nm 2) nilA))) (ret .nx))
  (seqS (forS (itS (frz (fn1 (coF uR) (consA (nm 0) (consA (nm 2) nilA))))) (tgN 4)
  (ifS (tst (op2 (eqF true) (nm 4) (nm 1)))
  (seqS (setV 5 (altM (frz (fn1 (coF g) (consA (nm 0) (consA (nm 2) (consA (nm 4) (consA (nm 3) nilA)))))) (fn1 (cvF g) (consA (nm 0) (consA (nm 2) (consA (nm 4) (consA (nm 3) nilA)))))))
  (ifS (tst (op2 (isNF true) (nm 5) (ret .non)))
  (retO (op2 catF (frz (lstA (consA (nm 2) nilA))) (nm 5))) (ret .nx))) (ret .nx)))
  (retS (ret .non))))
noncomputable def vf:Nat->List R->Option (R×List R)
 | 0=>λ_=>none
 | k+1=>fnD 6 4 (y8 (vf k))
noncomputable def Ar:M Fl:=
 (seqS (dropS (fn1 (cvF uo) (consA (nm 0) (consA (nm 1) nilA))))
  (seqS (dropS (fn1 (cvF uo) (consA (nm 0) (consA (nm 2) nilA))))
  (altM (retO (fn1 (coF (vf 21)) (consA (nm 0) (consA (ret .non) (consA (nm 1) (consA (nm 2) nilA)))))) (retS (fn1 (cvF (vf 21)) (consA (nm 0) (consA (ret .non) (consA (nm 1) (consA (nm 2) nilA)))))))))
noncomputable def vx:List R->Option (R×List R):=fnD 3 3 Ar
noncomputable def FF:M Nat:=
 (orX (fnX u6 (consA (nm 0) (consA (nm 1) nilA))) (thenX (dropS (fn1 (cvF uo) (consA (nm 0) (consA (nm 1) nilA))))
  (fnX u6 (consA (nm 0) (consA (nm 2) nilA)))))
noncomputable def xi:List D->Option Nat:=fnE 3 3 FF
noncomputable def za(g:List R->Option (R×List R)):M Fl:=
 (seqS (setO 3 (lstA (consA (nm 2) nilA)))
  (seqS (forS (itS (frz (fn1 (coF uR) (consA (nm 0) (consA (nm 2) nilA))))) (tgN 4)
  (ifS (tst (op2 (eqF true) (nm 4) (nm 1)))
  (extS 3 (fn1 (cvF g) (consA (nm 0) (consA (nm 2) (consA (nm 4) nilA))))) (ret .nx)))
  (retS (nm 3))))
noncomputable def vt:Nat->List R->Option (R×List R)
 | 0=>λ_=>none
 | k+1=>fnD 5 3 (za (vt k))
noncomputable def AM:M Fl:=
 (seqS (dropS (fn1 (cvF xa) (consA (nm 0) (consA (nm 1) (consA (nm 2) nilA)))))
  (retO (fn1 sortF (consA (fn1 (cvF (vt 20)) (consA (nm 0) (consA (nm 1) (consA (nm 2) nilA)))) nilA))))
noncomputable def yy:List R->Option (R×List R):=fnD 3 3 AM
noncomputable def GQ:M Nat:=
 (fnX wU (consA (nm 0) (consA (nm 1) (consA (nm 2) nilA))))
noncomputable def xZ:List D->Option Nat:=fnE 3 3 GQ
noncomputable def Bs:M Fl:=
 (seqS (ifS (tst (op2 (eqF false) (nm 0) (ret (.str "spare"))))
  (retO (fn1 (coF xu) (consA (nm 1) nilA))) (ret .nx))
  (retO (fn1 (coF wB) (consA (nm 1) nilA))))
noncomputable def xq:List R->Option (R×List R):=fnD 2 2 Bs
noncomputable def Fb:M Nat:=
 (orX (ifX (tst (op2 (eqF false) (nm 0) (ret (.str "spare"))))
  (fnX yU (consA (nm 1) nilA)) nvX) (thenX (ifS (tst (op2 (eqF false) (nm 0) (ret (.str "spare"))))
  (retO (fn1 (coF xu) (consA (nm 1) nilA))) (ret .nx))
  (fnX wT (consA (nm 1) nilA))))
noncomputable def zS:List D->Option Nat:=fnE 2 2 Fb
noncomputable def Bd:M Fl:=
 (retO (compO 1 (itS (nm 0)) (tgN 0) (ret true) (op2 ixF (nm 0) (ret (.int 1)))))
noncomputable def ua:List R->Option (R×List R):=fnD 1 1 Bd
noncomputable def yl(g:List R->Option (R×List R)):M Fl:=
 (seqS (setO 5 (fn1 (coF ua) (consA (frz (compO 1 (itS (nm 1)) (tgN 0) (tst (op2 (eqF false) (op2 ixF (nm 0) (ret (.int 0))) (nm 5))) (nm 0))) nilA)))
  (seqS (forS (itS (frz (fn1 (coF uR) (consA (nm 0) (consA (nm 4) nilA))))) (tgN 6)
  (ifS (tst (op2 (eqF true) (nm 6) (nm 3)))
  (extS 5 (frz (fn1 (coF g) (consA (nm 0) (consA (nm 1) (consA (nm 2) (consA (nm 4) (consA (nm 6) nilA)))))))) (ret .nx)))
  (retO (fn1 (coF xq) (consA (nm 2) (consA (nm 5) nilA))))))
noncomputable def vO:Nat->List R->Option (R×List R)
 | 0=>λ_=>none
 | k+1=>fnD 7 5 (yl (vO k))
noncomputable def BE:M Fl:=
 (seqS (dropS (fn1 (cvF tZ) (consA (frz (fn1 (coF ua) (consA (nm 1) nilA))) nilA)))
  (seqS (dropS (fn1 (cvF xa) (consA (nm 0) (consA (nm 3) (consA (nm 4) nilA)))))
  (retO (fn1 (coF (vO 20)) (consA (nm 0) (consA (nm 1) (consA (nm 2) (consA (nm 3) (consA (nm 4) nilA)))))))))
noncomputable def zN:List R->Option (R×List R):=fnD 5 5 BE
noncomputable def E8:M Nat:=
 (orX (fnX v5 (consA (frz (fn1 (coF ua) (consA (nm 1) nilA))) nilA)) (thenX (dropS (fn1 (cvF tZ) (consA (frz (fn1 (coF ua) (consA (nm 1) nilA))) nilA)))
  (fnX wU (consA (nm 0) (consA (nm 3) (consA (nm 4) nilA))))))
noncomputable def yI:List D->Option Nat:=fnE 5 5 E8
noncomputable def BQ:M Fl:=
 (retO (compO 1 (itS (frz (fn1 (coF (vO 20)) (consA (nm 0) (consA (nm 1) (consA (nm 2) (consA (nm 3) (consA (nm 4) nilA)))))))) (tgN 0) (tst (fn1 (cvF vF) (consA (nm 0) (consA (nm 6) nilA)))) (nm 0)))
noncomputable def wP:List R->Option (R×List R):=fnD 6 6 BQ
noncomputable def yJ(g:List R->Option (R×List R)):M Fl:=
 (seqS (setO 6 (lstA nilA))
  (seqS (forS (itS (frz (fn1 (coF uR) (consA (nm 0) (consA (nm 4) nilA))))) (tgN 7)
  (ifS (andT (tst (op2 (eqF true) (nm 7) (nm 3))) (tst (op2 gtI (fn1 lenF (consA (frz (fn1 (coF wP) (consA (nm 0) (consA (nm 1) (consA (nm 2) (consA (nm 4) (consA (nm 7) (consA (nm 5) nilA)))))))) nilA)) (ret (.int 0)))))
  (seqS (appS 6 (tupA (consA (nm 4) (consA (nm 7) nilA))))
  (extS 6 (fn1 (cvF g) (consA (nm 0) (consA (nm 1) (consA (nm 2) (consA (nm 4) (consA (nm 7) (consA (nm 5) nilA))))))))) (ret .nx)))
  (retS (nm 6))))
noncomputable def vw:Nat->List R->Option (R×List R)
 | 0=>λ_=>none
 | k+1=>fnD 8 6 (yJ (vw k))
noncomputable def BZ:M Fl:=
 (seqS (dropS (fn1 (cvF tZ) (consA (frz (op2 catF (frz (lstA (consA (nm 4) nilA))) (frz (fn1 (coF ua) (consA (nm 1) nilA))))) nilA)))
  (seqS (dropS (fn1 (cvF uo) (consA (nm 0) (consA (nm 3) nilA))))
  (seqS (setV 5 (frz (fn1 sortF (consA (fn1 (cvF (vw 20)) (consA (nm 0) (consA (nm 1) (consA (nm 2) (consA (ret .non) (consA (nm 3) (consA (nm 4) nilA))))))) nilA))))
  (seqS (setV 6 (frz (op2 catF (frz (lstA (consA (nm 3) nilA))) (frz (compO 1 (itS (nm 5)) (tgN 0) (ret true) (op2 ixF (nm 0) (ret (.int 1))))))))
  (seqS (setV 7 (frz (compO 2 (fn1 enumI (consA (nm 1) nilA)) (tgTup 2 (tgCons (tgN 0) (tgCons (tgN 1) tgNil))) (andT (tst (op2 (inF false) (op2 ixF (nm 1) (ret (.int 0))) (nm 8))) (tst (fn1 (cvF vF) (consA (op2 ixF (nm 1) (ret (.int 1))) (consA (nm 6) nilA))))) (nm 0))))
  (retS (tupA (consA (nm 5) (consA (nm 7) nilA)))))))))
noncomputable def wj:List R->Option (R×List R):=fnD 8 5 BZ
noncomputable def Gv:M Nat:=
 (orX (fnX v5 (consA (frz (op2 catF (frz (lstA (consA (nm 4) nilA))) (frz (fn1 (coF ua) (consA (nm 1) nilA))))) nilA)) (thenX (dropS (fn1 (cvF tZ) (consA (frz (op2 catF (frz (lstA (consA (nm 4) nilA))) (frz (fn1 (coF ua) (consA (nm 1) nilA))))) nilA)))
  (fnX u6 (consA (nm 0) (consA (nm 3) nilA)))))
noncomputable def wK:List D->Option Nat:=fnE 8 5 Gv
noncomputable def AR:M Fl:=
 (seqS (setV 6 (fn1 (cvF wj) (consA (nm 0) (consA (nm 1) (consA (nm 2) (consA (nm 3) (consA (nm 4) nilA)))))))
  (seqS (ifS (notT (tst (chn leI ltI (ret (.int 0)) (nm 5) (fn1 lenF (consA (nm 1) nilA)))))
  (λ_=>none) (ret .nx))
  (seqS (ifS (tst (op2 (inF true) (nm 5) (op2 ixF (nm 6) (ret (.int 1)))))
  (retS (ret .non)) (ret .nx))
  (seqS (setV 7 (altM (frz (fn1 (coF vx) (consA (nm 0) (consA (nm 3) (consA (op2 ixF (op2 ixF (nm 1) (nm 5)) (ret (.int 0))) nilA))))) (fn1 (cvF vx) (consA (nm 0) (consA (nm 3) (consA (op2 ixF (op2 ixF (nm 1) (nm 5)) (ret (.int 0))) nilA))))))
  (retO (compO 2 (fn1 zipI (consA (nm 7) (consA (sl3 slF (nm 7) (prt (ret (.int 1))) (ret none)) nilA))) (tgTup 2 (tgCons (tgN 0) (tgCons (tgN 1) tgNil))) (ret true) (tupA (consA (nm 0) (consA (nm 1) (consA (op2 ixF (frz (fn1 (coF wP) (consA (nm 2) (consA (nm 3) (consA (nm 4) (consA (nm 0) (consA (nm 1) (consA (nm 6) nilA)))))))) (ret (.int 0))) nilA))))))))))
noncomputable def xy:List R->Option (R×List R):=fnD 8 6 AR
noncomputable def Dv:M Nat:=
 (orX (fnX wK (consA (nm 0) (consA (nm 1) (consA (nm 2) (consA (nm 3) (consA (nm 4) nilA)))))) (thenX (setV 6 (fn1 (cvF wj) (consA (nm 0) (consA (nm 1) (consA (nm 2) (consA (nm 3) (consA (nm 4) nilA)))))))
  (orX (ifX (notT (tst (chn leI ltI (ret (.int 0)) (nm 5) (fn1 lenF (consA (nm 1) nilA)))))
  (raX 4 (consA (un1 (f1F "there is no hold ") (nm 5)) nilA)) nvX) (thenX (ifS (notT (tst (chn leI ltI (ret (.int 0)) (nm 5) (fn1 lenF (consA (nm 1) nilA)))))
  (λ_=>none) (ret .nx))
  (thenX (ifS (tst (op2 (inF true) (nm 5) (op2 ixF (nm 6) (ret (.int 1)))))
  (retS (ret .non)) (ret .nx))
  (fnX xi (consA (nm 0) (consA (nm 3) (consA (op2 ixF (op2 ixF (nm 1) (nm 5)) (ret (.int 0))) nilA)))))))))
noncomputable def zP:List D->Option Nat:=fnE 8 6 Dv
noncomputable def B1:M Fl:=
 (seqS (ifS (tst (op2 geI (nm 0) (op2 powI (ret (.int 10)) (ret (.int 18)))))
  (retS (nm 0)) (ret .nx))
  (seqS (setV 2 (op2 modI (op2 addF (op2 addF (op2 mulI (op2 modI (nm 0) (ret (.int 998244353))) (ret (.int 40692))) (op2 mulI (nm 1) (ret (.int 69621)))) (ret (.int 1009))) (ret (.int 2147483399))))
  (seqS (setV 3 (op2 modI (op2 addF (op2 addF (op2 mulI (nm 2) (nm 2)) (op2 mulI (nm 1) (ret (.int 48271)))) (op2 modI (nm 0) (ret (.int 131071)))) (ret (.int 2147483647))))
  (seqS (setV 4 (op2 modI (op2 addF (op2 addF (op2 mulI (nm 3) (nm 3)) (op2 mulI (nm 2) (ret (.int 17)))) (ret (.int 3))) (ret (.int 2147483629))))
  (retS (op2 addF (op2 mulI (op2 addF (op2 mulI (nm 2) (ret (.int 2147483647))) (nm 3)) (ret (.int 2147483629))) (nm 4)))))))
noncomputable def xn:List R->Option (R×List R):=fnD 5 2 B1
noncomputable def Bj:M Fl:=
 (seqS (setO 1 (fn1 lstF (consA (sl3 slF (nm 0) (ret none) (prt (ret (.int 12)))) nilA)))
  (seqS (forS (fn1 enumI (consA (sl3 slF (nm 0) (prt (ret (.int 12))) (prt (ret (.int 63)))) nilA)) (tgTup 2 (tgCons (tgN 2) (tgCons (tgN 3) tgNil)))
  (stS 1 (op2 modI (nm 2) (ret (.int 12))) (op2 addF (atN 1 (op2 modI (nm 2) (ret (.int 12)))) (nm 3))))
  (retO (lstA (consA (nm 1) (consA (ret (.int 0)) (consA (ret (.int 0)) nilA)))))))
noncomputable def wW:List R->Option (R×List R):=fnD 4 1 Bj
noncomputable def Aw:M Fl:=
 (seqS (ifS (tst (op2 ltI (atN 0 (ret (.int 2))) (nm 1)))
  (seqS (setV 2 (atN 0 (ret (.int 1))))
  (seqS (setV 3 (op2 mulI (ret (.int 11)) (nm 2)))
  (seqS (ifS (tst (op2 ltI (nm 2) (fn1 lenF (consA (atN 0 (ret (.int 0))) nilA))))
  (setV 3 (op2 ixF (atN 0 (ret (.int 0))) (nm 2))) (ifS (tst (op2 (eqF true) (atN 0 (ret (.int 0))) (frz (lstA nilA))))
  (setV 3 (op2 modI (op2 ixF (atN 0 (ret (.int 0))) (op2 modI (op2 addF (op2 mulI (nm 2) (ret (.int 7))) (ret (.int 1))) (fn1 lenF (consA (atN 0 (ret (.int 0))) nilA)))) (op2 addF (op2 powI (ret (.int 10)) (ret (.int 17))) (op2 mulI (ret (.int 3)) (nm 2))))) (ret .nx)))
  (seqS (stS 0 (ret (.int 1)) (op2 addF (nm 2) (ret (.int 1))))
  (stS 0 (ret (.int 2)) (fn1 (cvF xn) (consA (nm 3) (consA (nm 2) nilA)))))))) (ret .nx))
  (seqS (setV 4 (op2 modI (atN 0 (ret (.int 2))) (nm 1)))
  (seqS (stS 0 (ret (.int 2)) (op2 divI (atN 0 (ret (.int 2))) (nm 1)))
  (retS (nm 4)))))
noncomputable def tE:List R->Option (R×List R):=fnD 5 2 Aw
noncomputable def Ck:M Fl:=
 (seqS (setO 4 (lstA nilA))
  (seqS (forS (fn1 rngI1 (consA (nm 1) nilA)) (tgN 5)
  (seqS (setV 6 (op2 addF (nm 2) (cbV 0 tE (consA (nm 3) nilA))))
  (seqS (setV 7 (op2 addF (nm 2) (cbV 0 tE (consA (nm 3) nilA))))
  (appS 4 (tupA (consA (fn1 minF (consA (nm 6) (consA (nm 7) nilA))) (consA (fn1 maxF (consA (nm 6) (consA (nm 7) nilA))) nilA)))))))
  (retS (fn1 tupF (consA (nm 4) nilA)))))
noncomputable def xE:List R->Option (R×List R):=fnD 8 4 Ck
noncomputable def BX:M Fl:=
 (seqS (setV 2 (op2 addF (ret (.int 1)) (cbV 0 tE (consA (nm 1) nilA))))
  (seqS (setV 3 (cbV 0 tE (consA (ret (.int 4)) nilA)))
  (seqS (setO 4 (fn1 rngI1 (consA (nm 2) nilA)))
  (seqS (setV 5 (frz (compO 1 (fn1 rngI1 (consA (nm 2) nilA)) (tgN 0) (ret true) (popAt 5 (consA (cbV 1 tE (consA (lenN 5) nilA)) nilA)))))
  (seqS (setO 6 (lstA nilA))
  (seqS (forS (fn1 rngI2 (consA (ret (.int 1)) (consA (nm 2) nilA))) (tgN 7)
  (seqS (setV 8 (op2 ixF (frz (lstA (consA (op2 subI (nm 7) (ret (.int 1))) (consA (ret (.int 0)) (consA (cbV 0 tE (consA (nm 7) nilA)) (consA (cbV 0 tE (consA (nm 7) nilA)) nilA)))))) (nm 3)))
  (seqS (setV 9 (tupA (consA (fn1 minF (consA (op2 ixF (nm 5) (nm 7)) (consA (op2 ixF (nm 5) (nm 8)) nilA))) (consA (fn1 maxF (consA (op2 ixF (nm 5) (nm 7)) (consA (op2 ixF (nm 5) (nm 8)) nilA))) nilA))))
  (ifS (orT (tst (op2 ltI (nm 3) (ret (.int 3)))) (tst (op2 gtI (cbV 0 tE (consA (ret (.int 4)) nilA)) (ret (.int 0)))))
  (appS 6 (nm 9)) (ret .nx)))))
  (retS (tupA (consA (nm 2) (consA (fn1 tupF (consA (frz (fn1 sortF (consA (nm 6) nilA))) nilA)) nilA))))))))))
noncomputable def yu:List R->Option (R×List R):=fnD 10 2 BX
noncomputable def FW:M Fl:=
 (seqS (setV 1 (frz (lstA (consA (un1 (isxF "NoKin") (nm 0)) (consA (un1 (isxF "NoHouse") (nm 0)) (consA (un1 (isxF "NoRoad") (nm 0)) nilA))))))
  (seqS (setV 1 (frz (op2 catF (nm 1) (frz (lstA (consA (un1 (isxF "Ring") (nm 0)) (consA (un1 (isxF "NoHold") (nm 0)) (consA (un1 (isxF "NoLetter") (nm 0)) nilA))))))))
  (seqS (setV 1 (frz (op2 catF (nm 1) (frz (lstA (consA (un1 (isxF "NoStep") (nm 0)) (consA (un1 (isxF "NoText") (nm 0)) (consA (un1 (isxF "NoRow") (nm 0)) nilA))))))))
  (seqS (setV 1 (frz (op2 catF (nm 1) (frz (lstA (consA (un1 (isxF "NoLog") (nm 0)) nilA))))))
  (seqS (ifS (orT (tst (op2 (eqF true) (mbV cbF 1 (consA (ret (.bl true)) nilA)) (ret (.int 1)))) (orT (notT (tst (un1 (isxF "RoofError") (nm 0)))) (notT (tst (un1 isvF (nm 0))))))
  (retS (ret (.str "odd"))) (ret .nx))
  (retS (op2 ixF (frz (lstA (consA (ret (.str "kin")) (consA (ret (.str "house")) (consA (ret (.str "road")) (consA (ret (.str "ring")) (consA (ret (.str "hold")) (consA (ret (.str "letter")) (consA (ret (.str "step")) (consA (ret (.str "text")) (consA (ret (.str "row")) (consA (ret (.str "log")) nilA)))))))))))) (mbV ibF 1 (consA (ret (.bl true)) nilA)))))))))
noncomputable def ux:List R->Option (R×List R):=fnD 2 1 FW
noncomputable abbrev GT:M Fl:=(ifS (tst (op2 (eqF false) (nm 0) (ret (.int 0)))) (dropS (frz (fn1 (coF zN) (consA (nm 2) (consA (nm 9) (consA (nm 1) (consA (nm 4) (consA (nm 5) nilA)))))))) (ifS (tst (op2 (eqF false) (nm 0) (ret (.int 1)))) (dropS (fn1 (cvF wj) (consA (nm 2) (consA (nm 9) (consA (nm 1) (consA (nm 4) (consA (nm 6) nilA))))))) (ifS (tst (op2 (eqF false) (nm 0) (ret (.int 2)))) (dropS (altM (frz (fn1 (coF xy) (consA (nm 2) (consA (nm 9) (consA (nm 1) (consA (nm 4) (consA (nm 6) (consA (nm 7) nilA)))))))) (fn1 (cvF xy) (consA (nm 2) (consA (nm 9) (consA (nm 1) (consA (nm 4) (consA (nm 6) (consA (nm 7) nilA))))))))) (ifS (tst (op2 (eqF false) (nm 0) (ret (.int 3)))) (dropS (frz (fn1 (coF uR) (consA (nm 2) (consA (nm 4) nilA))))) (ifS (tst (op2 (eqF false) (nm 0) (ret (.int 4)))) (dropS (altM (frz (fn1 (coF vx) (consA (nm 2) (consA (nm 4) (consA (nm 5) nilA))))) (fn1 (cvF vx) (consA (nm 2) (consA (nm 4) (consA (nm 5) nilA)))))) (ifS (tst (op2 (eqF false) (nm 0) (ret (.int 5)))) (dropS (frz (fn1 (coF yy) (consA (nm 2) (consA (nm 4) (consA (nm 5) nilA)))))) (dropS (frz (fn1 (coF xq) (consA (nm 1) (consA (nm 10) nilA)))))))))))
noncomputable abbrev XT:M Nat:=(ifX (tst (op2 (eqF false) (nm 0) (ret (.int 0)))) (fnX yI (consA (nm 2) (consA (nm 9) (consA (nm 1) (consA (nm 4) (consA (nm 5) nilA)))))) (ifX (tst (op2 (eqF false) (nm 0) (ret (.int 1)))) (fnX wK (consA (nm 2) (consA (nm 9) (consA (nm 1) (consA (nm 4) (consA (nm 6) nilA)))))) (ifX (tst (op2 (eqF false) (nm 0) (ret (.int 2)))) (fnX zP (consA (nm 2) (consA (nm 9) (consA (nm 1) (consA (nm 4) (consA (nm 6) (consA (nm 7) nilA))))))) (ifX (tst (op2 (eqF false) (nm 0) (ret (.int 3)))) (fnX zk (consA (nm 2) (consA (nm 4) nilA))) (ifX (tst (op2 (eqF false) (nm 0) (ret (.int 4)))) (fnX xi (consA (nm 2) (consA (nm 4) (consA (nm 5) nilA)))) (ifX (tst (op2 (eqF false) (nm 0) (ret (.int 5)))) (fnX xZ (consA (nm 2) (consA (nm 4) (consA (nm 5) nilA)))) (fnX zS (consA (nm 1) (consA (nm 10) nilA)))))))))
noncomputable def BU:M Fl:=
 (seqS (setV 8 (ret .non))
  (seqS (setV 9 (frz (fn1 lstF (consA (nm 3) nilA))))
  (seqS (setV 10 (frz (compO 2 (itS (nm 3)) (tgTup 2 (tgCons (tgN 0) (tgCons (tgN 1) tgNil))) (ret true) (nm 1))))
  (seqS (tryE GT XT 11 8)
  (seqS (ifS (orT (tst (op2 (eqF true) (nm 9) (nm 3))) (tst (op2 (eqF true) (nm 10) (frz (compO 2 (itS (nm 3)) (tgTup 2 (tgCons (tgN 0) (tgCons (tgN 1) tgNil))) (ret true) (nm 1))))))
  (retS (ret (.str "odd"))) (ret .nx))
  (retS (ifV (tst (op2 (isNF false) (nm 8) (ret .non))) (ret (.str "told")) (fn1 (cvF ux) (consA (nm 8) nilA)))))))))
noncomputable def xC:List R->Option (R×List R):=fnD 12 8 BU
noncomputable def AI:M Fl:=
 (seqS (setV 7 (frz (op2 catF (frz (compO 2 (itS (nm 2)) (tgTup 2 (tgCons (tgN 0) (tgCons (tgN 1) tgNil))) (ret true) (fn1 lenF (consA (nm 1) nilA)))) (frz (op2 timesF (frz (lstA (consA (fn1 lenF (consA (nm 5) nilA)) nilA))) (fn1 intBF (consA (op2 (inF false) (nm 0) (tupA (consA (ret (.int 1)) (consA (ret (.int 2)) nilA)))) nilA)))))))
  (seqS (ifS (andT (tst (op2 (inF true) (nm 0) (tupA (consA (ret (.int 3)) (consA (ret (.int 4)) (consA (ret (.int 5)) nilA)))))) (tst (op2 gtI (fn1 lsA (consA (nm 7) nilA)) (ret (.int 1)))))
  (retS (ret (.str "kin"))) (ret .nx))
  (seqS (ifS (tst (op2 (eqF false) (nm 0) (ret (.int 6))))
  (retS (ret (.str "told"))) (ret .nx))
  (seqS (setV 8 (frz (op2 catF (frz (lstA (consA (nm 3) nilA))) (frz (op2 timesF (frz (lstA (consA (nm 4) nilA))) (fn1 intBF (consA (op2 (inF false) (nm 0) (tupA (consA (ret (.int 0)) (consA (ret (.int 4)) (consA (ret (.int 5)) nilA))))) nilA)))))))
  (seqS (ifS (tst (op2 (eqF true) (frz (compO 1 (itS (nm 8)) (tgN 0) (orT (tst (op2 ltI (nm 0) (ret (.int 0)))) (tst (op2 geI (nm 0) (op2 ixF (nm 2) (ret (.int 0)))))) (ret (.int 1)))) (frz (lstA nilA))))
  (retS (ret (.str "house"))) (ret .nx))
  (seqS (ifS (andT (tst (op2 (inF false) (nm 0) (tupA (consA (ret (.int 0)) (consA (ret (.int 5)) nilA))))) (tst (op2 (inF true) (tupA (consA (fn1 minF (consA (nm 3) (consA (nm 4) nilA))) (consA (fn1 maxF (consA (nm 3) (consA (nm 4) nilA))) nilA))) (op2 ixF (nm 1) (ret (.int 1))))))
  (retS (ret (.str "road"))) (ret .nx))
  (retS (ifV (andT (tst (op2 (eqF false) (nm 0) (ret (.int 2)))) (orT (tst (op2 ltI (nm 6) (ret (.int 0)))) (tst (op2 geI (nm 6) (fn1 lenF (consA (nm 2) nilA)))))) (ret (.str "hold")) (ret (.str "told"))))))))))
noncomputable def zK:List R->Option (R×List R):=fnD 9 7 AI
noncomputable abbrev bdy:M Fl:=(seqS (setV 9 (op2 ixF (frz (lstA (consA (ret (.str "roof")) (consA (ret (.str "spare")) nilA)))) (cbV 1 tE (consA (ret (.int 2)) nilA)))) (seqS (setV 10 (op2 ixF (frz (op2 catF (frz (op2 timesF (frz (fn1 rngI1 (consA (op2 ixF (nm 5) (ret (.int 0))) nilA))) (ret (.int 3)))) (nm 7))) (cbV 1 tE (consA (op2 addF (op2 mulI (ret (.int 3)) (op2 ixF (nm 5) (ret (.int 0)))) (ret (.int 4))) nilA)))) (seqS (setV 11 (op2 ixF (frz (op2 catF (frz (op2 timesF (frz (fn1 rngI1 (consA (op2 ixF (nm 5) (ret (.int 0))) nilA))) (ret (.int 3)))) (nm 7))) (cbV 1 tE (consA (op2 addF (op2 mulI (ret (.int 3)) (op2 ixF (nm 5) (ret (.int 0)))) (ret (.int 4))) nilA)))) (seqS (ifS (andT (tst (op2 (eqF true) (op2 ixF (nm 5) (ret (.int 1))) (tupA nilA))) (tst (op2 (eqF false) (op2 modI (nm 8) (ret (.int 2))) (ret (.int 0))))) (asgS (op2 ixF (op2 ixF (nm 5) (ret (.int 1))) (cbV 1 tE (consA (fn1 lenF (consA (op2 ixF (nm 5) (ret (.int 1))) nilA)) nilA))) (tgTup 2 (tgCons (tgN 10) (tgCons (tgN 11) tgNil)))) (ret .nx)) (seqS (setV 12 (cbV 1 tE (consA (op2 addF (fn1 lenF (consA (nm 6) nilA)) (ret (.int 1))) nilA))) (seqS (setV 13 (frz (lstA (consA (tupA (consA (cbV 1 tE (consA (op2 ixF (nm 5) (ret (.int 0))) nilA)) (consA (cbV 1 xE (consA (op2 ixF (nm 4) (cbV 1 tE (consA (ret (.int 4)) nilA))) (consA (ret (.int 2)) (consA (ret (.int 3)) nilA)))) nilA))) nilA)))) (seqS (setV 14 (frz (op2 catF (frz (op2 catF (sl3 slF (nm 6) (ret none) (prt (nm 12))) (frz (op2 timesF (nm 13) (cbV 1 tE (consA (ret (.int 2)) nilA)))))) (sl3 slF (nm 6) (prt (nm 12)) (ret none))))) (seqS (setV 15 (fn1 tupF (consA (frz (compO 1 (fn1 rngI1 (consA (op2 ixF (nm 4) (cbV 1 tE (consA (ret (.int 4)) nilA))) nilA)) (tgN 0) (ret true) (cbV 2 tE (consA (ret (.int 10)) nilA)))) nilA))) (seqS (setV 16 (op2 ixF (frz (lstA (consA (cbV 1 tE (consA (fn1 maxF (consA (ret (.int 1)) (consA (fn1 lenF (consA (nm 14) nilA)) nilA))) nilA)) (consA (un1 negI (ret (.int 1))) (consA (fn1 lenF (consA (nm 14) nilA)) (consA (op2 powI (ret (.int 10)) (ret (.int 30))) nilA)))))) (cbV 1 tE (consA (ret (.int 4)) nilA)))) (forS (fn1 rngI1 (consA (ret (.int 7)) nilA)) (tgN 17) (seqS (setV 18 (fn1 (cvF zK) (consA (nm 17) (consA (nm 5) (consA (nm 14) (consA (nm 10) (consA (nm 11) (consA (nm 15) (consA (nm 16) nilA))))))))) (ifS (tst (op2 (eqF true) (fn1 (cvF xC) (consA (nm 17) (consA (nm 9) (consA (nm 5) (consA (nm 14) (consA (nm 10) (consA (nm 11) (consA (nm 15) (consA (nm 16) nilA))))))))) (nm 18))) (retS (ret (.bl false))) (ret .nx)))))))))))))
noncomputable def Cf:M Fl:=
 (seqS (setO 1 (fn1 (coF wW) (consA (nm 0) nilA)))
  (seqS (forS (fn1 rngI1 (consA (ret (.int 4)) nilA)) (tgN 2)
  (seqS (setV 3 (op2 addF (ret (.int 1)) (cbV 1 tE (consA (ret (.int 3)) nilA))))
  (seqS (setV 4 (frz (lstA (consA (nm 3) (consA (nm 3) (consA (op2 addF (ret (.int 1)) (op2 modI (nm 3) (ret (.int 3)))) (consA (op2 addF (ret (.int 1)) (op2 modI (op2 addF (nm 3) (ret (.int 1))) (ret (.int 3)))) nilA)))))))
  (seqS (setV 5 (cbV 1 yu (consA (ret (.int 6)) nilA)))
  (seqS (setV 6 (frz (compO 1 (fn1 rngI1 (consA (cbV 1 tE (consA (ret (.int 4)) nilA)) nilA)) (tgN 0) (ret true) (tupA (consA (cbV 2 tE (consA (op2 ixF (nm 6) (ret (.int 0))) nilA)) (consA (cbV 2 xE (consA (nm 4) (consA (ret (.int 2)) (consA (ret (.int 3)) nilA)))) nilA))))))
  (seqS (setV 7 (frz (lstA (consA (un1 negI (ret (.int 1))) (consA (op2 ixF (nm 5) (ret (.int 0))) (consA (op2 powI (ret (.int 10)) (ret (.int 30))) (consA (op2 subI (ret (.int 0)) (op2 ixF (nm 5) (ret (.int 0)))) nilA)))))))
  (forS (fn1 rngI1 (consA (ret (.int 6)) nilA)) (tgN 8)
  bdy)))))))
  (retS (ret (.bl true)))))
noncomputable def vI:List R->Option (R×List R):=fnD 19 1 Cf
theorem nk(h:decide N.Nodup=true:=by kernel_rfl):N.Nodup:=of_decide_eq_true h
theorem en(i:Nat){B:BB}{x:Str}(hN:X.N[i]?=some x:=by rfl)(hv:visB X.env.scope x=true:=by rfl)(hd:(x == ("__debug__":Str))=false:=by decide)(cp:(x == ("__classdict__":Str))=false:=by decide):ED X B (.Name x pos) (nm i):=Fh (pv i hN hv hd cp)
noncomputable def top(i:Nat):Sb:=PySem.Challenge.pw_roofpost_k31_tables_refused.main.body.getD i (.Pass ⟨0,0,0,0⟩)
noncomputable abbrev zF:Sb:=top 13
noncomputable abbrev Bm:Sb:=top 14
noncomputable abbrev Ak:Sb:=top 15
noncomputable abbrev Bu:Sb:=top 16
noncomputable abbrev xU:Sb:=top 17
noncomputable abbrev AL:Sb:=top 18
noncomputable abbrev zV:Sb:=top 20
noncomputable abbrev yY:Sb:=top 21
noncomputable abbrev Bg:Sb:=top 22
noncomputable abbrev A3:Sb:=top 23
noncomputable abbrev yB:Sb:=top 24
noncomputable abbrev yo:Sb:=top 26
noncomputable abbrev zI:Sb:=top 27
noncomputable abbrev zg:Sb:=top 28
noncomputable abbrev zQ:Sb:=top 29
noncomputable abbrev yw:Sb:=top 30
noncomputable abbrev yn:Sb:=top 31
noncomputable abbrev zw:Sb:=top 32
noncomputable abbrev xY:Sb:=top 34
noncomputable abbrev BG:Sb:=top 35
noncomputable abbrev yV:Sb:=top 36
noncomputable abbrev ya:Sb:=top 37
noncomputable abbrev xV:Sb:=top 38
noncomputable abbrev zt:Sb:=top 39
noncomputable abbrev BW:Sb:=top 40
noncomputable abbrev yO:Sb:=top 41
noncomputable abbrev AT:Sb:=top 43
noncomputable abbrev BO:Sb:=top 44
noncomputable abbrev A6:Sb:=top 45
noncomputable abbrev AX:Sb:=top 46
noncomputable abbrev zZ:Sb:=top 49
noncomputable abbrev zY:Sb:=top 51
noncomputable abbrev BS:Sb:=top 52
noncomputable abbrev BN:Sb:=top 53
noncomputable abbrev Ca:Sb:=top 54
structure CdX(P:x_)(w:I_)(K:PySem.W.Frag)(mg:Str->Option b_)(base:RV)(cl:Nat->i_)(k:Nat)(f:i_)(fd:S')(ps:List Str)(gx:List D->Option Nat)(x:Str):Prop where
 G:FnOk P w K mg base (CXX P w) k f fd ps (spE K cl gx)
 b:Binds K fd ps []
 p:PySem.W.keepIn K (.ref f)=true
 m:mg x=some (.ref f)
theorem cqX{B:BB}{cl:Nat->i_}{es:List RW}{p:Pos}{kr:Nat}{x:Str}{gx:List D->Option Nat}(G:CdX X.prog X.w X.K X.mg X.base cl k f fd ps gx x)(hr:Room kr X.A)(ha:AD X B (e::es) t)(hk:k<=kr:=by decide)(hg:Gl X x:=by exact rfl)(bC:(x == ("__debug__":Str))=false:=by decide)(he:e_ (e::es) X.env=(false,eval e X.env)::e_ es X.env:=by rfl)(aC:(R4 pos (e_ es X.env)).any (·.1)=false:=by rfl):XD X B cl (.Call (.Name x p) (e::es) [] pos) (fnX gx t):=Ir G.G (hr.mono hk) hg G.m G.p G.b ha bC he aC
structure Cd(P:x_)(w:I_)(K:PySem.W.Frag)(mg:Str->Option b_)(base:RV)(k:Nat)(f:i_)(fd:S')(ps:List Str)(g:List R->Option (R×List R))(x:Str):Prop where
 G:FnOk P w K mg base CX0 k f fd ps (spD K g)
 b:Binds K fd ps []
 p:PySem.W.keepIn K (.ref f)=true
 m:mg x=some (.ref f)
abbrev uO(P w K mg base f fd):=Cd P w K mg base 2 f fd ["things"] tZ "must_be_kin"
abbrev AJ(P w K mg base f fd):=Cd P w K mg base 3 f fd ["wish", "letter"] vF "has_letter"
abbrev AW(P w K mg base f fd):=Cd P w K mg base 3 f fd ["one", "other"] xk "covers"
abbrev Fw(P w K mg base f fd):=Cd P w K mg base 3 f fd ["one", "other"] xR "in_common"
abbrev zJ(P w K mg base f fd):=Cd P w K mg base 5 f fd ["wishes"] wB "roof_of"
abbrev Hu(P w K mg base f fd):=Cd P w K mg base 4 f fd ["wishes", "wish"] zh "is_under_another"
abbrev GN(P w K mg base f fd):=Cd P w K mg base 46 f fd ["wishes", "wish"] xz "covered"
abbrev Og(P w K mg base f fd):=Cd P w K mg base 45 f fd ["wishes", "numbers", "part"] (vA 40) "looked_through"
abbrev GA(P w K mg base f fd):=Cd P w K mg base 2 f fd ["wishes", "part"] yF "first_border"
abbrev Dc(P w K mg base f fd):=Cd P w K mg base 2 f fd ["part", "field", "at"] ze "halves_of"
abbrev Ec(P w K mg base f fd):=Cd P w K mg base 47 f fd ["wishes"] xu "spare_of"
abbrev vg(P w K mg base f fd):=Cd P w K mg base 2 f fd ["web", "house"] uo "must_be_house"
abbrev yZ(P w K mg base f fd):=Cd P w K mg base 4 f fd ["web", "one", "other"] xa "must_be_road"
abbrev uD(P w K mg base f fd):=Cd P w K mg base 3 f fd ["web", "house"] uR "neighbours_of"
abbrev AE(P w K mg base f fd):=Cd P w K mg base 27 f fd ["web", "one", "other"] vx "way_between"
abbrev EE(P w K mg base f fd):=Cd P w K mg base 26 f fd ["web", "came", "house", "other"] (vf 21) "way_on"
abbrev JY(P w K mg base f fd):=Cd P w K mg base 26 f fd ["web", "house", "neighbour"] yy "houses_behind"
abbrev Ga(P w K mg base f fd):=Cd P w K mg base 25 f fd ["web", "came", "house"] (vt 20) "houses_from"
abbrev zU(P w K mg base f fd):=Cd P w K mg base 48 f fd ["how", "wishes"] xq "short_of"
abbrev v3(P w K mg base f fd):=Cd P w K mg base 2 f fd ["holds"] ua "wishes_of"
abbrev JI(P w K mg base f fd):=Cd P w K mg base 71 f fd ["web", "holds", "how", "house", "neighbour"] zN "table_of"
abbrev A4(P w K mg base f fd):=Cd P w K mg base 70 f fd ["web", "holds", "how", "house", "neighbour"] (vO 20) "heard_of"
abbrev Af(P w K mg base f fd):=Cd P w K mg base 94 f fd ["web", "holds", "how", "house", "letter"] wj "led_by"
abbrev Fp(P w K mg base f fd):=Cd P w K mg base 93 f fd ["web", "holds", "how", "came", "house", "letter"] (vw 20) "roads_on"
abbrev zO(P w K mg base f fd):=Cd P w K mg base 71 f fd ["web", "holds", "how", "house", "neighbour", "letter"] wP "leading"
abbrev Of(P w K mg base f fd):=Cd P w K mg base 95 f fd ["web", "holds", "how", "house", "letter", "number"] xy "chain_to"
abbrev JP(P w K mg base f fd):=Cd P w K mg base 2 f fd ["cell", "at"] xn "_law_blend"
abbrev HZ(P w K mg base f fd):=Cd P w K mg base 2 f fd ["script"] wW "_law_pot"
abbrev Bp(P w K mg base f fd):=Cd P w K mg base 3 f fd ["pot", "upto"] tE "_law_pick"
abbrev K0(P w K mg base f fd):=Cd P w K mg base 4 f fd ["pot", "fields", "low", "top"] xE "_law_wish"
abbrev Nx(P w K mg base f fd):=Cd P w K mg base 4 f fd ["pot", "most"] yu "_law_web"
abbrev Pd(P w K mg base f fd):=Cd P w K mg base 2 f fd ["caught"] ux "_law_kind"
abbrev L8(P w K mg base f fd):=Cd P w K mg base 96 f fd ["at", "how", "web", "holds", "one", "other", "letter", "number"] xC "_law_told"
abbrev NW(P w K mg base f fd):=Cd P w K mg base 2 f fd ["at", "web", "holds", "one", "other", "letter", "number"] zK "_law_due"
abbrev wf(P w K mg base cl f fd):=CdX P w K mg base cl 2 f fd ["things"] v5 "must_be_kin"
abbrev vb(P w K mg base cl f fd):=CdX P w K mg base cl 2 f fd ["web", "house"] u6 "must_be_house"
abbrev ym(P w K mg base cl f fd):=CdX P w K mg base cl 4 f fd ["web", "one", "other"] wU "must_be_road"
abbrev MT(P w K mg base cl f fd):=CdX P w K mg base cl 3 f fd ["web", "house"] zk "neighbours_of"
abbrev AK(P w K mg base cl f fd):=CdX P w K mg base cl 27 f fd ["web", "one", "other"] xi "way_between"
abbrev Mp(P w K mg base cl f fd):=CdX P w K mg base cl 26 f fd ["web", "house", "neighbour"] xZ "houses_behind"
abbrev zR(P w K mg base cl f fd):=CdX P w K mg base cl 5 f fd ["wishes"] wT "roof_of"
abbrev FZ(P w K mg base cl f fd):=CdX P w K mg base cl 47 f fd ["wishes"] yU "spare_of"
abbrev J9(P w K mg base cl f fd):=CdX P w K mg base cl 48 f fd ["how", "wishes"] zS "short_of"
abbrev NE(P w K mg base cl f fd):=CdX P w K mg base cl 71 f fd ["web", "holds", "how", "house", "neighbour"] yI "table_of"
abbrev BD(P w K mg base cl f fd):=CdX P w K mg base cl 94 f fd ["web", "holds", "how", "house", "letter"] wK "led_by"
abbrev N1(P w K mg base cl f fd):=CdX P w K mg base cl 95 f fd ["web", "holds", "how", "house", "letter", "number"] zP "chain_to"
section
variable{P:x_}{w:I_}{K:PySem.W.Frag}
theorem CW:FnScope ["things", "thing"] ["things"] (defScope zF):=⟨rfl,rfl,rfl,by decide +kernel,rfl,by decide +kernel,by decide +kernel⟩
theorem O2(F:Fun K "must_be_kin" "must_be_kin" zF f fd)(EX:Exs K mg)(ai:mg "len"=none):FnOk P w K mg base CX0 2 f fd ["things"] (spD K tZ):=
 sX (k:=1) (N:=["things", "thing"]) F CW BL (λam A outer s H E B hr=>sS
  (sJ (t8 Vq rfl (tL (en 0)) (gd_n (i:=1) (m:=100) nk)
  (sJ (sR (uf hr (tT rfl ai (fI (en 1) gV rfl)) (tT rfl ai (fI (sL (en 0) my) gV rfl)))
  (sJ (oI wu)) sT)))))
theorem JD(F:Fun K "must_be_kin" "must_be_kin" zF f fd)(EX:Exs K mg)(ai:mg "len"=none):FnOk P w K mg base (CXX P w) 2 f fd ["things"] (spE K (clN K) v5):=
 uz (k:=1) (N:=["things", "thing"]) F CW Hn (λam A outer s H E B hr=>um
  (tN (tx (IP rfl rfl rfl (λ_=>(tL (en 0))) (λ_=>(gd_n (i:=1) (m:=100) nk)) (λ_=>sS (sJ (sR (uf hr (tT rfl ai (fI (en 1) gV rfl)) (tT rfl ai (fI (sL (en 0) my) gV rfl)))
  (sJ (oI wu)) sT))) (λ_=>um (tN (uJ (uf hr (tT rfl ai (fI (en 1) gV rfl)) (tT rfl ai (fI (sL (en 0) my) gV rfl)))
  (tN (tx (yT rfl rfl (EX.m "NoKin" (by decide)) (EX.xc "NoKin" (by decide)) (fI tK gV rfl)))) xm)))))))
theorem M8:FnScope ["wish", "letter"] ["wish", "letter"] (defScope Bm):=⟨rfl,rfl,rfl,by decide +kernel,rfl,by decide +kernel,by decide +kernel⟩
theorem Me(F:Fun K "has_letter" "has_letter" Bm f fd){ay' ax'}(aL:uO P w K mg base ay' ax')(br:mg "zip"=none)(cQ:mg "all"=none):FnOk P w K mg base CX0 3 f fd ["wish", "letter"] (spD K vF):=
 sX (k:=2) (N:=["wish", "letter"]) F M8 Ch (λam A outer s H E B hr=>sS
  (rj (oI (tz (sP aL.G (hr.mono (by decide)) rfl aL.m aL.p aL.b (fI (sM (sZ (fI (en 0) (fI (en 1) gV rfl) rfl))) gV rfl))))
  (sJ (oI (sV (Ev rfl rfl cQ (fI (sM (t9 (N':=["pair", "number", "-wish", "-letter"]) (m:=2) (CompScope.of (by kernel_rfl)) rfl (yG rfl br (fI (en 0) (fI (en 1) gV rfl) rfl)) (λ_ _ _ _=>(uF (m:=2) rfl (tQ (gd_n (i:=0) (m:=2) nk) (tQ (gd_n (i:=1) (m:=2) nk) uI)))) (λ_ _ _ _=>uk) (λ_ _ _ _=>(M4 (sL (en 0) my) (en 1) (sL (en 0) my))))) gV rfl)))))))
theorem NR:FnScope ["one", "other"] ["one", "other"] (defScope Ak):=⟨rfl,rfl,rfl,by decide +kernel,rfl,by decide +kernel,by decide +kernel⟩
theorem Kx(F:Fun K "covers" "covers" Ak f fd){ay' ax'}(aL:uO P w K mg base ay' ax')(br:mg "zip"=none)(cQ:mg "all"=none):FnOk P w K mg base CX0 3 f fd ["one", "other"] (spD K xk):=
 sX (k:=2) (N:=["one", "other"]) F NR Br (λam A outer s H E B hr=>sS
  (rj (oI (tz (sP aL.G (hr.mono (by decide)) rfl aL.m aL.p aL.b (fI (sM (sZ (fI (en 0) (fI (en 1) gV rfl) rfl))) gV rfl))))
  (sJ (oI (sV (Ev rfl rfl cQ (fI (sM (t9 (N':=["wide", "pair", "-one", "-other"]) (m:=2) (CompScope.of (by kernel_rfl)) rfl (yG rfl br (fI (en 0) (fI (en 1) gV rfl) rfl)) (λ_ _ _ _=>(uF (m:=2) rfl (tQ (gd_n (i:=0) (m:=2) nk) (tQ (gd_n (i:=1) (m:=2) nk) uI)))) (λ_ _ _ _=>uk) (λ_ _ _ _=>(Cu (DI (sL (en 0) my) (sL (en 1) my)) (DZ (DI (sL (en 1) my) (sL (en 0) my))))))) gV rfl)))))))
theorem MD:FnScope ["one", "other", "shared", "pair", "twin", "low", "high"] ["one", "other"] (defScope Bu):=⟨rfl,rfl,rfl,by decide +kernel,rfl,by decide +kernel,by decide +kernel⟩
theorem Ls(F:Fun K "in_common" "in_common" Bu f fd){ay' ax'}(aL:uO P w K mg base ay' ax')(br:mg "zip"=none)(bf:mg "max"=none)(bg:mg "min"=none)(aG:mg "tuple"=none):FnOk P w K mg base CX0 3 f fd ["one", "other"] (spD K xR):=
 sX (k:=2) (N:=["one", "other", "shared", "pair", "twin", "low", "high"]) F MD AN (λam A outer s H E B hr=>sS
  (rj (oI (tz (sP aL.G (hr.mono (by decide)) rfl aL.m aL.p aL.b (fI (sM (sZ (fI (en 0) (fI (en 1) gV rfl) rfl))) gV rfl))))
  (rj (oI (uU (i:=2) nk (sZ gV)))
  (rj (t8 Vq rfl (yG rfl br (fI (en 0) (fI (en 1) gV rfl) rfl)) (uF (m:=100) rfl (tQ (gd_n (i:=3) (m:=100) nk) (tQ (gd_n (i:=4) (m:=100) nk) uI)))
  (rj (sO (i:=5) nk (wO rfl rfl bf (fI (sL (en 3) my) (fI (sL (en 4) my) gV rfl) rfl)))
  (rj (sO (i:=6) nk (y6 rfl rfl bg (fI (sL (en 3) my) (fI (sL (en 4) my) gV rfl) rfl)))
  (rj (sR (yd (en 5) (en 6))
  (sJ (oI (sV uy))) sT)
  (sJ (oI (vZ (pv 2) (tv (fI (en 5) (fI (en 6) gV rfl) rfl)))))))))
  (sJ (oI (sV (w8 rfl aG (fI (en 2) gV rfl)))))))))
theorem GU:FnScope ["wishes", "unlike"] ["wishes"] (defScope xU):=⟨rfl,rfl,rfl,by decide +kernel,rfl,by decide +kernel,by decide +kernel⟩
theorem JE(F:Fun K "roof_of" "roof_of" xU f fd){ay' ax'}(aL:uO P w K mg base ay' ax'){cV' cD'}(im:Hu P w K mg base cV' cD'){fx_must_be_kin fdx_must_be_kin}(aH:wf P w K mg base (clN K) fx_must_be_kin fdx_must_be_kin)(aq:mg "sorted"=none)(cf:mg "set"=none):FnOk P w K mg base CX0 5 f fd ["wishes"] (spD K wB):=
 sX (k:=4) (N:=["wishes", "unlike"]) F GU A5 (λam A outer s H E B hr=>sS
  (rj (oI (tz (sP aL.G (hr.mono (by decide)) rfl aL.m aL.p aL.b (fI (en 0) gV rfl))))
  (rj (sO (i:=1) nk (sM (Os hr rfl aq rfl cf (fI (en 0) gV rfl))))
  (sJ (oI (ue (t9 (N':=["wish", "-wishes", "unlike"]) (m:=1) (CompScope.of (by kernel_rfl)) rfl (tL (en 1)) (λ_ _ _ _=>(gd_n (i:=0) (m:=1) nk)) (λ_ _ _ _=>(vn (vq (v9 (sP im.G (hr.mono (by decide)) rfl im.m im.p im.b (fI (en 2) (fI (en 0) gV rfl) rfl)))))) (λ_ _ _ _=>(en 0)))))))))
theorem Ik(F:Fun K "roof_of" "roof_of" xU f fd){ay' ax'}(aL:uO P w K mg base ay' ax'){cV' cD'}(im:Hu P w K mg base cV' cD'){fx_must_be_kin fdx_must_be_kin}(aH:wf P w K mg base (clN K) fx_must_be_kin fdx_must_be_kin)(aq:mg "sorted"=none)(cf:mg "set"=none):FnOk P w K mg base (CXX P w) 5 f fd ["wishes"] (spE K (clN K) wT):=
 uz (k:=4) (N:=["wishes", "unlike"]) F GU CH (λam A outer s H E B hr=>um
  (vo (tx (t5 (cqX aH hr (fI (en 0) gV rfl))))))
theorem LG:FnScope ["wishes", "wish"] ["wishes", "wish"] (defScope AL):=⟨rfl,rfl,rfl,by decide +kernel,rfl,by decide +kernel,by decide +kernel⟩
theorem MW(F:Fun K "is_under_another" "is_under_another" AL f fd){fA' ez'}(df:AW P w K mg base fA' ez')(ft:mg "any"=none):FnOk P w K mg base CX0 4 f fd ["wishes", "wish"] (spD K zh):=
 sX (k:=3) (N:=["wishes", "wish"]) F LG Bt (λam A outer s H E B hr=>sS
  (sJ (oI (sV (Pj rfl rfl ft (fI (sM (t9 (N':=["one", "-wishes", "wish"]) (m:=1) (CompScope.of (by kernel_rfl)) rfl (tL (en 0)) (λ_ _ _ _=>(gd_n (i:=0) (m:=1) nk)) (λ_ _ _ _=>uk) (λ_ _ _ _=>(Cu (N0 hr (en 0) (en 2)) (DZ (sP df.G (hr.mono (by decide)) rfl df.m df.p df.b (fI (en 0) (fI (en 2) gV rfl) rfl))))))) gV rfl))))))
theorem P6:FnScope ["wishes", "wish"] ["wishes", "wish"] (defScope zV):=⟨rfl,rfl,rfl,by decide +kernel,rfl,by decide +kernel,by decide +kernel⟩
theorem Mn(F:Fun K "covered" "covered" zV f fd){ay' ax'}(aL:uO P w K mg base ay' ax'){jz' iM'}(jl:Og P w K mg base jz' iM')(ai:mg "len"=none)(aO:mg "list"=none)(aD:mg "range"=none):FnOk P w K mg base CX0 46 f fd ["wishes", "wish"] (spD K xz):=
 sX (k:=45) (N:=["wishes", "wish"]) F P6 AS (λam A outer s H E B hr=>sS
  (rj (oI (tz (sP aL.G (hr.mono (by decide)) rfl aL.m aL.p aL.b (fI (sM (ub (sM (sZ (fI (en 1) gV rfl))) (en 0))) gV rfl))))
  (sJ (oI (sV (sP jl.G (hr.mono (by decide)) rfl jl.m jl.p jl.b (fI (en 0) (fI (sM (yL rfl rfl aO rfl aD (fI (tT rfl ai (fI (en 0) gV rfl)) gV rfl))) (fI (en 1) gV rfl) rfl) rfl)))))))
theorem JC:FnScope ["wishes", "numbers", "part", "near", "k", "place", "halves", "one", "other"] ["wishes", "numbers", "part"] (defScope yY):=⟨rfl,rfl,rfl,by decide +kernel,rfl,by decide +kernel,by decide +kernel⟩
theorem Oe{g:List R->Option (R×List R)}(hk:4<=kk)(F:Fun K "looked_through" "looked_through" yY f fd)(G:FnOk P w K mg base CX0 kk f fd ["wishes", "numbers", "part"] (spD K g)){ga' fB'}(fu:Fw P w K mg base ga' fB'){fA' ez'}(df:AW P w K mg base fA' ez'){ea' dR'}(fv:GA P w K mg base ea' dR'){gb' fC'}(fx:Dc P w K mg base gb' fC')(ai:mg "len"=none)(aG:mg "tuple"=none)(io:Binds K fd ["wishes", "numbers", "part"] [])(ir:PySem.W.keepIn K (.ref f)=true)(iw:mg "looked_through"=some (.ref f)):FnOk P w K mg base CX0 (kk+1) f fd ["wishes", "numbers", "part"] (spD K (fnD 9 3 (yR g))):=
 sX (N:=["wishes", "numbers", "part", "near", "k", "place", "halves", "one", "other"]) F JC (yR g) (λam A outer s H E B hr=>sS
  (rj (oI (xb (i:=3) (N':=["k", "wishes", "-numbers", "part", "-near", "-k", "-place", "-halves", "-one", "-other"]) (m:=1) (CompScope.of (by kernel_rfl)) rfl nk (tL (en 1)) (λ_ _ _ _=>(gd_n (i:=0) (m:=1) nk)) (λ_ _ _ _=>(vn (DT (sP fu.G (hr.mono (y_ (by decide) hk)) rfl fu.m fu.p fu.b (fI (sL (en 1) (en 0)) (fI (en 3) gV rfl) rfl)) uy))) (λ_ _ _ _=>(en 0))))
  (rj (sR (tH hr (tT rfl ai (fI (en 3) gV rfl)) my)
  (sJ (oI (sV (tv (fI tK (fI (w8 rfl aG (fI (sM (t9 (N':=["pair", "-wishes", "-numbers", "-part", "-near", "-k", "-place", "-halves", "-one", "-other"]) (m:=1) (CompScope.of (by kernel_rfl)) rfl (tL (en 2)) (λ_ _ _ _=>(gd_n (i:=0) (m:=1) nk)) (λ_ _ _ _=>uk) (λ_ _ _ _=>(sL (en 0) my)))) gV rfl)) gV rfl) rfl))))) sT)
  (rj (t8 Vq rfl (tL (en 3)) (gd_n (i:=4) (m:=100) nk)
  (sJ (sR (v9 (sP df.G (hr.mono (y_ (by decide) hk)) rfl df.m df.p df.b (fI (sL (en 0) (en 4)) (fI (en 2) gV rfl) rfl)))
  (sJ (oI (sV (tv (fI tK (fI (tv (fI tK (fI (en 4) gV rfl) rfl)) gV rfl) rfl))))) sT)))
  (rj (sO (i:=5) nk (sP fv.G (hr.mono (y_ (by decide) hk)) rfl fv.m fv.p fv.b (fI (sM (t9 (N':=["k", "wishes", "-numbers", "-part", "-near", "-k", "-place", "-halves", "-one", "-other"]) (m:=1) (CompScope.of (by kernel_rfl)) rfl (tL (en 3)) (λ_ _ _ _=>(gd_n (i:=0) (m:=1) nk)) (λ_ _ _ _=>uk) (λ_ _ _ _=>(sL (en 1) (en 0))))) (fI (en 2) gV rfl) rfl)))
  (rj (sO (i:=6) nk (sP fx.G (hr.mono (y_ (by decide) hk)) rfl fx.m fx.p fx.b (fI (en 2) (fI (sL (en 5) my) (fI (sL (en 5) my) gV rfl) rfl) rfl)))
  (rj (sO (i:=7) nk (sP G hr rfl iw ir io (fI (en 0) (fI (en 3) (fI (sL (en 6) my) gV rfl) rfl) rfl)))
  (rj (sR (tH hr (sL (en 7) my) tK)
  (sJ (oI (sV (en 7)))) sT)
  (rj (sO (i:=8) nk (sP G hr rfl iw ir io (fI (en 0) (fI (en 3) (fI (sL (en 6) my) gV rfl) rfl) rfl)))
  (rj (sR (tH hr (sL (en 8) my) tK)
  (sJ (oI (sV (en 8)))) sT)
  (sJ (oI (sV (tv (fI tK (fI (tv (tq tK (sL (en 5) my) (sL (en 5) my) (sL (en 7) my) (fI (sL (en 8) my) gV rfl) rfl rfl rfl rfl)) gV rfl) rfl)))))))))))))))
theorem G4{f:i_}{fd:S'}(F:Fun K "looked_through" "looked_through" yY f fd){ga' fB'}(fu:Fw P w K mg base ga' fB'){fA' ez'}(df:AW P w K mg base fA' ez'){ea' dR'}(fv:GA P w K mg base ea' dR'){gb' fC'}(fx:Dc P w K mg base gb' fC')(ai:mg "len"=none)(aG:mg "tuple"=none)(io:Binds K fd ["wishes", "numbers", "part"] [])(ir:PySem.W.keepIn K (.ref f)=true)(iw:mg "looked_through"=some (.ref f)):∀n:Nat,FnOk P w K mg base CX0 (5+n) f fd ["wishes", "numbers", "part"] (spD K (vA n))
 | 0=>vd
 | n+1=>Oe (y_ (by decide) (S5 _ n)) F (G4 F fu df fv fx ai aG io ir iw n) fu df fv fx ai aG io ir iw
theorem Mc:FnScope ["wishes", "part", "places", "field", "pair", "wish"] ["wishes", "part"] (defScope Bg):=⟨rfl,rfl,rfl,by decide +kernel,rfl,by decide +kernel,by decide +kernel⟩
theorem Mm(F:Fun K "first_border" "first_border" Bg f fd)(aF:mg "enumerate"=none)(bg:mg "min"=none):FnOk P w K mg base CX0 2 f fd ["wishes", "part"] (spD K yF):=
 sX (k:=1) (N:=["wishes", "part", "places", "field", "pair", "wish"]) F Mc AG (λam A outer s H E B hr=>sS
  (rj (oI (uU (i:=2) nk (sZ gV)))
  (rj (t8 Vq rfl (zX rfl aF (fI (en 1) gV rfl)) (uF (m:=100) rfl (tQ (gd_n (i:=3) (m:=100) nk) (tQ (gd_n (i:=4) (m:=100) nk) uI)))
  (sJ (t8 Vq rfl (tL (en 0)) (gd_n (i:=5) (m:=100) nk)
  (rj (sR (vC (sL (en 4) my) (sL (sL (en 5) (en 3)) my))
  (sJ (oI (vZ (pv 2) (tv (fI (en 3) (fI (BK (sL (sL (en 5) (en 3)) my) my) gV rfl) rfl))))) sT)
  (sJ (sR (vC (sL (sL (en 5) (en 3)) my) (sL (en 4) my))
  (sJ (oI (vZ (pv 2) (tv (fI (en 3) (fI (sL (sL (en 5) (en 3)) my) gV rfl) rfl))))) sT))))))
  (sJ (oI (sV (J4 rfl hr rfl bg (fI (en 2) gV rfl))))))))
theorem IE:FnScope ["part", "field", "at", "ahead", "behind", "low", "high"] ["part", "field", "at"] (defScope A3):=⟨rfl,rfl,rfl,by decide +kernel,rfl,by decide +kernel,by decide +kernel⟩
theorem Jt(F:Fun K "halves_of" "halves_of" A3 f fd) :FnOk P w K mg base CX0 2 f fd ["part", "field", "at"] (spD K ze):=
 sX (k:=1) (N:=["part", "field", "at", "ahead", "behind", "low", "high"]) F IE BY (λam A outer s H E B hr=>sS
  (rj (sO (i:=3) nk (vP (en 0) vS (vp (en 1))))
  (rj (sO (i:=4) nk (vP (en 0) (vp (tu (en 1) my)) vS))
  (rj (sO (i:=5) nk (sL (sL (en 0) (en 1)) my))
  (rj (sO (i:=6) nk (sL (sL (en 0) (en 1)) my))
  (sJ (oI (sV (tv (fI (tu (tu (en 3) (tv (fI (tv (fI (en 5) (fI (en 2) gV rfl) rfl)) gV rfl))) (en 4)) (fI (tu (tu (en 3) (tv (fI (tv (fI (tu (en 2) my) (fI (en 6) gV rfl) rfl)) gV rfl))) (en 4)) gV rfl) rfl))))))))))
theorem CN:FnScope ["wishes", "roof", "stay", "wish", "others"] ["wishes"] (defScope yB):=⟨rfl,rfl,rfl,by decide +kernel,rfl,by decide +kernel,by decide +kernel⟩
theorem Lh(F:Fun K "spare_of" "spare_of" yB f fd){cW' co'}(dH:zJ P w K mg base cW' co'){im' hB'}(iy:GN P w K mg base im' hB'){fx_roof_of fdx_roof_of}(bM:zR P w K mg base (clN K) fx_roof_of fdx_roof_of):FnOk P w K mg base CX0 47 f fd ["wishes"] (spD K xu):=
 sX (k:=46) (N:=["wishes", "roof", "stay", "wish", "others"]) F CN yN (λam A outer s H E B hr=>sS
  (rj (oI (L' (i:=1) nk (tf dH.G (hr.mono (by decide)) rfl dH.m dH.p dH.b (fI (en 0) gV rfl))))
  (rj (oI (F6 (i:=2) (j:=1) nk (pv 1)))
  (rj (t8 Vq rfl (tL (en 1)) (gd_n (i:=3) (m:=100) nk)
  (rj (oI (LZ (i:=4) (N':=["one", "-wishes", "-roof", "-stay", "wish", "-others"]) (m:=1) (CompScope.of (by kernel_rfl)) rfl nk (tL (en 2)) (λ_ _ _ _=>(gd_n (i:=0) (m:=1) nk)) (λ_ _ _ _=>(vn (uf hr (en 0) (en 4)))) (λ_ _ _ _=>(en 0))))
  (sJ (sR (tH hr (sL (sP iy.G (hr.mono (by decide)) rfl iy.m iy.p iy.b (fI (en 4) (fI (en 3) gV rfl) rfl)) my) tK)
  (sJ (oI (F6 (i:=2) (j:=4) nk (pv 4)))) sT))))
  (sJ (oI (HQ (pv 2))))))))
theorem Jk(F:Fun K "spare_of" "spare_of" yB f fd){cW' co'}(dH:zJ P w K mg base cW' co'){im' hB'}(iy:GN P w K mg base im' hB'){fx_roof_of fdx_roof_of}(bM:zR P w K mg base (clN K) fx_roof_of fdx_roof_of):FnOk P w K mg base (CXX P w) 47 f fd ["wishes"] (spE K (clN K) yU):=
 uz (k:=46) (N:=["wishes", "roof", "stay", "wish", "others"]) F CN F1 (λam A outer s H E B hr=>um
  (vo (tx (Ci (i:=1) nk (cqX bM hr (fI (en 0) gV rfl))))))
theorem Cy:FnScope ["web", "house"] ["web", "house"] (defScope yo):=⟨rfl,rfl,rfl,by decide +kernel,rfl,by decide +kernel,by decide +kernel⟩
theorem Pt(F:Fun K "must_be_house" "must_be_house" yo f fd)(EX:Exs K mg):FnOk P w K mg base CX0 2 f fd ["web", "house"] (spD K uo):=
 sX (k:=1) (N:=["web", "house"]) F Cy B0 (λam A outer s H E B hr=>sS
  (sJ (sR (vq (wM my (en 1) (sL (en 0) my)))
  (sJ (oI wu)) sT)))
theorem NI(F:Fun K "must_be_house" "must_be_house" yo f fd)(EX:Exs K mg):FnOk P w K mg base (CXX P w) 2 f fd ["web", "house"] (spE K (clN K) u6):=
 uz (k:=1) (N:=["web", "house"]) F Cy Dl (λam A outer s H E B hr=>um
  (tN (uJ (vq (wM my (en 1) (sL (en 0) my)))
  (tN (tx (yT rfl rfl (EX.m "NoHouse" (by decide)) (EX.xc "NoHouse" (by decide)) (fI (DD (by decide) (en 1)) gV rfl)))) xm)))
theorem GM:FnScope ["web", "one", "other"] ["web", "one", "other"] (defScope zI):=⟨rfl,rfl,rfl,by decide +kernel,rfl,by decide +kernel,by decide +kernel⟩
theorem PM(F:Fun K "must_be_road" "must_be_road" zI f fd){aE' az'}(aN:vg P w K mg base aE' az'){as' aq'}(aK:uD P w K mg base as' aq'){fx_must_be_house fdx_must_be_house}(aj:vb P w K mg base (clN K) fx_must_be_house fdx_must_be_house)(EX:Exs K mg):FnOk P w K mg base CX0 4 f fd ["web", "one", "other"] (spD K xa):=
 sX (k:=3) (N:=["web", "one", "other"]) F GM BP (λam A outer s H E B hr=>sS
  (rj (oI (tz (sP aN.G (hr.mono (by decide)) rfl aN.m aN.p aN.b (fI (en 0) (fI (en 1) gV rfl) rfl))))
  (rj (oI (tz (sP aN.G (hr.mono (by decide)) rfl aN.m aN.p aN.b (fI (en 0) (fI (en 2) gV rfl) rfl))))
  (sJ (sR (we hr (en 2) (sM (tf aK.G (hr.mono (by decide)) rfl aK.m aK.p aK.b (fI (en 0) (fI (en 1) gV rfl) rfl))))
  (sJ (oI wu)) sT)))))
theorem No(F:Fun K "must_be_road" "must_be_road" zI f fd){aE' az'}(aN:vg P w K mg base aE' az'){as' aq'}(aK:uD P w K mg base as' aq'){fx_must_be_house fdx_must_be_house}(aj:vb P w K mg base (clN K) fx_must_be_house fdx_must_be_house)(EX:Exs K mg):FnOk P w K mg base (CXX P w) 4 f fd ["web", "one", "other"] (spE K (clN K) wU):=
 uz (k:=3) (N:=["web", "one", "other"]) F GM FT (λam A outer s H E B hr=>um
  (ve (oI (tz (sP aN.G (hr.mono (by decide)) rfl aN.m aN.p aN.b (fI (en 0) (fI (en 1) gV rfl) rfl)))) (tx (t5 (cqX aj hr (fI (en 0) (fI (en 1) gV rfl) rfl))))
  (ve (oI (tz (sP aN.G (hr.mono (by decide)) rfl aN.m aN.p aN.b (fI (en 0) (fI (en 2) gV rfl) rfl)))) (tx (t5 (cqX aj hr (fI (en 0) (fI (en 2) gV rfl) rfl))))
  (tN (uJ (we hr (en 2) (sM (tf aK.G (hr.mono (by decide)) rfl aK.m aK.p aK.b (fI (en 0) (fI (en 1) gV rfl) rfl))))
  (tN (tx (yT rfl rfl (EX.m "NoRoad" (by decide)) (EX.xc "NoRoad" (by decide)) (fI (Oz (by decide) (by decide) (en 1) (en 2)) gV rfl)))) xm)))))
theorem FR:FnScope ["web", "house"] ["web", "house"] (defScope zg):=⟨rfl,rfl,rfl,by decide +kernel,rfl,by decide +kernel,by decide +kernel⟩
theorem LH(F:Fun K "neighbours_of" "neighbours_of" zg f fd){aE' az'}(aN:vg P w K mg base aE' az'){fx_must_be_house fdx_must_be_house}(aj:vb P w K mg base (clN K) fx_must_be_house fdx_must_be_house)(aq:mg "sorted"=none):FnOk P w K mg base CX0 3 f fd ["web", "house"] (spD K uR):=
 sX (k:=2) (N:=["web", "house"]) F FR BJ (λam A outer s H E B hr=>sS
  (rj (oI (tz (sP aN.G (hr.mono (by decide)) rfl aN.m aN.p aN.b (fI (en 0) (fI (en 1) gV rfl) rfl))))
  (sJ (oI (ue (zc hr rfl aq (fI (sM (t9 (N':=["road", "-web", "house"]) (m:=1) (CompScope.of (by kernel_rfl)) rfl (tL (sL (en 0) my)) (λ_ _ _ _=>(gd_n (i:=0) (m:=1) nk)) (λ_ _ _ _=>(vn (Av hr (en 2) (en 0)))) (λ_ _ _ _=>(Bx (tH hr (sL (en 0) my) (en 2)) (sL (en 0) my) (sL (en 0) my))))) gV rfl)))))))
theorem Io(F:Fun K "neighbours_of" "neighbours_of" zg f fd){aE' az'}(aN:vg P w K mg base aE' az'){fx_must_be_house fdx_must_be_house}(aj:vb P w K mg base (clN K) fx_must_be_house fdx_must_be_house)(aq:mg "sorted"=none):FnOk P w K mg base (CXX P w) 3 f fd ["web", "house"] (spE K (clN K) zk):=
 uz (k:=2) (N:=["web", "house"]) F FR E6 (λam A outer s H E B hr=>um
  (vo (tx (t5 (cqX aj hr (fI (en 0) (fI (en 1) gV rfl) rfl))))))
theorem F4:FnScope ["web", "one", "other"] ["web", "one", "other"] (defScope zQ):=⟨rfl,rfl,rfl,by decide +kernel,rfl,by decide +kernel,by decide +kernel⟩
theorem M1(F:Fun K "way_between" "way_between" zQ f fd){aE' az'}(aN:vg P w K mg base aE' az'){jA' in'}(ek:EE P w K mg base jA' in'){fx_must_be_house fdx_must_be_house}(aj:vb P w K mg base (clN K) fx_must_be_house fdx_must_be_house):FnOk P w K mg base CX0 27 f fd ["web", "one", "other"] (spD K vx):=
 sX (k:=26) (N:=["web", "one", "other"]) F F4 Ar (λam A outer s H E B hr=>sS
  (rj (oI (tz (sP aN.G (hr.mono (by decide)) rfl aN.m aN.p aN.b (fI (en 0) (fI (en 1) gV rfl) rfl))))
  (rj (oI (tz (sP aN.G (hr.mono (by decide)) rfl aN.m aN.p aN.b (fI (en 0) (fI (en 2) gV rfl) rfl))))
  (sJ (oI (PU (ue (tf ek.G (hr.mono (by decide)) rfl ek.m ek.p ek.b (tq (en 0) uy (en 1) (en 2) gV rfl rfl rfl rfl))) (sV (sP ek.G (hr.mono (by decide)) rfl ek.m ek.p ek.b (tq (en 0) uy (en 1) (en 2) gV rfl rfl rfl rfl)))))))))
theorem NS(F:Fun K "way_between" "way_between" zQ f fd){aE' az'}(aN:vg P w K mg base aE' az'){jA' in'}(ek:EE P w K mg base jA' in'){fx_must_be_house fdx_must_be_house}(aj:vb P w K mg base (clN K) fx_must_be_house fdx_must_be_house):FnOk P w K mg base (CXX P w) 27 f fd ["web", "one", "other"] (spE K (clN K) xi):=
 uz (k:=26) (N:=["web", "one", "other"]) F F4 FF (λam A outer s H E B hr=>um
  (ve (oI (tz (sP aN.G (hr.mono (by decide)) rfl aN.m aN.p aN.b (fI (en 0) (fI (en 1) gV rfl) rfl)))) (tx (t5 (cqX aj hr (fI (en 0) (fI (en 1) gV rfl) rfl))))
  (vo (tx (t5 (cqX aj hr (fI (en 0) (fI (en 2) gV rfl) rfl)))))))
theorem PN:FnScope ["web", "came", "house", "other", "neighbour", "way"] ["web", "came", "house", "other"] (defScope yw):=⟨rfl,rfl,rfl,by decide +kernel,rfl,by decide +kernel,by decide +kernel⟩
theorem Pw{g:List R->Option (R×List R)}(hk:4<=kk)(F:Fun K "way_on" "way_on" yw f fd)(G:FnOk P w K mg base CX0 kk f fd ["web", "came", "house", "other"] (spD K g)){as' aq'}(aK:uD P w K mg base as' aq')(iz:Binds K fd ["web", "came", "house", "other"] [])(iA:PySem.W.keepIn K (.ref f)=true)(iB:mg "way_on"=some (.ref f)):FnOk P w K mg base CX0 (kk+1) f fd ["web", "came", "house", "other"] (spD K (fnD 6 4 (y8 g))):=
 sX (N:=["web", "came", "house", "other", "neighbour", "way"]) F PN (y8 g) (λam A outer s H E B hr=>sS
  (rj (sR (tH hr (en 2) (en 3))
  (sJ (oI (ue (sZ (fI (en 2) gV rfl))))) sT)
  (rj (t8 Vq rfl (tL (sM (tf aK.G (hr.mono (y_ (by decide) hk)) rfl aK.m aK.p aK.b (fI (en 0) (fI (en 2) gV rfl) rfl)))) (gd_n (i:=4) (m:=100) nk)
  (sJ (sR (uf hr (en 4) (en 1))
  (rj (sO (i:=5) nk (yi (sM (tf G hr rfl iB iA iz (tq (en 0) (en 2) (en 4) (en 3) gV rfl rfl rfl rfl))) (sP G hr rfl iB iA iz (tq (en 0) (en 2) (en 4) (en 3) gV rfl rfl rfl rfl))))
  (sJ (sR (DT (en 5) uy)
  (sJ (oI (ue (ub (sM (sZ (fI (en 2) gV rfl))) (en 5))))) sT))) sT)))
  (sJ (oI (sV uy))))))
theorem Cw{f:i_}{fd:S'}(F:Fun K "way_on" "way_on" yw f fd){as' aq'}(aK:uD P w K mg base as' aq')(iz:Binds K fd ["web", "came", "house", "other"] [])(iA:PySem.W.keepIn K (.ref f)=true)(iB:mg "way_on"=some (.ref f)):∀n:Nat,FnOk P w K mg base CX0 (5+n) f fd ["web", "came", "house", "other"] (spD K (vf n))
 | 0=>vd
 | n+1=>Pw (y_ (by decide) (S5 _ n)) F (Cw F aK iz iA iB n) aK iz iA iB
theorem GW:FnScope ["web", "house", "neighbour"] ["web", "house", "neighbour"] (defScope yn):=⟨rfl,rfl,rfl,by decide +kernel,rfl,by decide +kernel,by decide +kernel⟩
theorem LS(F:Fun K "houses_behind" "houses_behind" yn f fd){by' br'}(dI:yZ P w K mg base by' br'){eF' eb'}(iC:Ga P w K mg base eF' eb'){fx_must_be_road fdx_must_be_road}(aQ:ym P w K mg base (clN K) fx_must_be_road fdx_must_be_road)(aq:mg "sorted"=none):FnOk P w K mg base CX0 26 f fd ["web", "house", "neighbour"] (spD K yy):=
 sX (k:=25) (N:=["web", "house", "neighbour"]) F GW AM (λam A outer s H E B hr=>sS
  (rj (oI (tz (sP dI.G (hr.mono (by decide)) rfl dI.m dI.p dI.b (fI (en 0) (fI (en 1) (fI (en 2) gV rfl) rfl) rfl))))
  (sJ (oI (ue (zc hr rfl aq (fI (sP iC.G (hr.mono (by decide)) rfl iC.m iC.p iC.b (fI (en 0) (fI (en 1) (fI (en 2) gV rfl) rfl) rfl)) gV rfl)))))))
theorem IK(F:Fun K "houses_behind" "houses_behind" yn f fd){by' br'}(dI:yZ P w K mg base by' br'){eF' eb'}(iC:Ga P w K mg base eF' eb'){fx_must_be_road fdx_must_be_road}(aQ:ym P w K mg base (clN K) fx_must_be_road fdx_must_be_road)(aq:mg "sorted"=none):FnOk P w K mg base (CXX P w) 26 f fd ["web", "house", "neighbour"] (spE K (clN K) xZ):=
 uz (k:=25) (N:=["web", "house", "neighbour"]) F GW GQ (λam A outer s H E B hr=>um
  (vo (tx (t5 (cqX aQ hr (fI (en 0) (fI (en 1) (fI (en 2) gV rfl) rfl) rfl))))))
theorem KN:FnScope ["web", "came", "house", "houses", "neighbour"] ["web", "came", "house"] (defScope zw):=⟨rfl,rfl,rfl,by decide +kernel,rfl,by decide +kernel,by decide +kernel⟩
theorem J2{g:List R->Option (R×List R)}(hk:4<=kk)(F:Fun K "houses_from" "houses_from" zw f fd)(G:FnOk P w K mg base CX0 kk f fd ["web", "came", "house"] (spD K g)){as' aq'}(aK:uD P w K mg base as' aq')(jm:Binds K fd ["web", "came", "house"] [])(jn:PySem.W.keepIn K (.ref f)=true)(jo:mg "houses_from"=some (.ref f)):FnOk P w K mg base CX0 (kk+1) f fd ["web", "came", "house"] (spD K (fnD 5 3 (za g))):=
 sX (N:=["web", "came", "house", "houses", "neighbour"]) F KN (za g) (λam A outer s H E B hr=>sS
  (rj (oI (uU (i:=3) nk (sZ (fI (en 2) gV rfl))))
  (rj (t8 Vq rfl (tL (sM (tf aK.G (hr.mono (y_ (by decide) hk)) rfl aK.m aK.p aK.b (fI (en 0) (fI (en 2) gV rfl) rfl)))) (gd_n (i:=4) (m:=100) nk)
  (sJ (sR (uf hr (en 4) (en 1))
  (sJ (oI (AF (pv 3) (sP G hr rfl jo jn jm (fI (en 0) (fI (en 2) (fI (en 4) gV rfl) rfl) rfl))))) sT)))
  (sJ (oI (sV (en 3)))))))
theorem CQ{f:i_}{fd:S'}(F:Fun K "houses_from" "houses_from" zw f fd){as' aq'}(aK:uD P w K mg base as' aq')(jm:Binds K fd ["web", "came", "house"] [])(jn:PySem.W.keepIn K (.ref f)=true)(jo:mg "houses_from"=some (.ref f)):∀n:Nat,FnOk P w K mg base CX0 (5+n) f fd ["web", "came", "house"] (spD K (vt n))
 | 0=>vd
 | n+1=>J2 (y_ (by decide) (S5 _ n)) F (CQ F aK jm jn jo n) aK jm jn jo
theorem FH:FnScope ["how", "wishes"] ["how", "wishes"] (defScope xY):=⟨rfl,rfl,rfl,by decide +kernel,rfl,by decide +kernel,by decide +kernel⟩
theorem Ip(F:Fun K "short_of" "short_of" xY f fd){hC' gc'}(et:Ec P w K mg base hC' gc'){cW' co'}(dH:zJ P w K mg base cW' co'){fx_roof_of fdx_roof_of}(bM:zR P w K mg base (clN K) fx_roof_of fdx_roof_of){fx_spare_of fdx_spare_of}(cX:FZ P w K mg base (clN K) fx_spare_of fdx_spare_of):FnOk P w K mg base CX0 48 f fd ["how", "wishes"] (spD K xq):=
 sX (k:=47) (N:=["how", "wishes"]) F FH Bs (λam A outer s H E B hr=>sS
  (rj (sR (tH hr (en 0) tK)
  (sJ (oI (ue (tf et.G (hr.mono (by decide)) rfl et.m et.p et.b (fI (en 1) gV rfl))))) sT)
  (sJ (oI (ue (tf dH.G (hr.mono (by decide)) rfl dH.m dH.p dH.b (fI (en 1) gV rfl)))))))
theorem Nj(F:Fun K "short_of" "short_of" xY f fd){hC' gc'}(et:Ec P w K mg base hC' gc'){cW' co'}(dH:zJ P w K mg base cW' co'){fx_roof_of fdx_roof_of}(bM:zR P w K mg base (clN K) fx_roof_of fdx_roof_of){fx_spare_of fdx_spare_of}(cX:FZ P w K mg base (clN K) fx_spare_of fdx_spare_of):FnOk P w K mg base (CXX P w) 48 f fd ["how", "wishes"] (spE K (clN K) zS):=
 uz (k:=47) (N:=["how", "wishes"]) F FH Fb (λam A outer s H E B hr=>um
  (ve (sR (tH hr (en 0) tK)
  (sJ (oI (ue (tf et.G (hr.mono (by decide)) rfl et.m et.p et.b (fI (en 1) gV rfl))))) sT) (uJ (tH hr (en 0) tK)
  (tN (tx (F9 (cqX cX hr (fI (en 1) gV rfl))))) xm)
  (tN (tx (F9 (cqX bM hr (fI (en 1) gV rfl)))))))
theorem Ig:FnScope ["holds"] ["holds"] (defScope BG):=⟨rfl,rfl,rfl,by decide +kernel,rfl,by decide +kernel,by decide +kernel⟩
theorem KH(F:Fun K "wishes_of" "wishes_of" BG f fd) :FnOk P w K mg base CX0 2 f fd ["holds"] (spD K ua):=
 sX (k:=1) (N:=["holds"]) F Ig Bd (λam A outer s H E B hr=>sS
  (sJ (oI (ue (t9 (N':=["hold", "-holds"]) (m:=1) (CompScope.of (by kernel_rfl)) rfl (tL (en 0)) (λ_ _ _ _=>(gd_n (i:=0) (m:=1) nk)) (λ_ _ _ _=>uk) (λ_ _ _ _=>(sL (en 0) my)))))))
theorem Df:FnScope ["web", "holds", "how", "house", "neighbour"] ["web", "holds", "how", "house", "neighbour"] (defScope yV):=⟨rfl,rfl,rfl,by decide +kernel,rfl,by decide +kernel,by decide +kernel⟩
theorem Jq(F:Fun K "table_of" "table_of" yV f fd){ay' ax'}(aL:uO P w K mg base ay' ax'){bi' bc'}(aT:v3 P w K mg base bi' bc'){by' br'}(dI:yZ P w K mg base by' br'){dS' de'}(dR:A4 P w K mg base dS' de'){fx_must_be_road fdx_must_be_road}(aQ:ym P w K mg base (clN K) fx_must_be_road fdx_must_be_road){fx_must_be_kin fdx_must_be_kin}(aH:wf P w K mg base (clN K) fx_must_be_kin fdx_must_be_kin):FnOk P w K mg base CX0 71 f fd ["web", "holds", "how", "house", "neighbour"] (spD K zN):=
 sX (k:=70) (N:=["web", "holds", "how", "house", "neighbour"]) F Df BE (λam A outer s H E B hr=>sS
  (rj (oI (tz (sP aL.G (hr.mono (by decide)) rfl aL.m aL.p aL.b (fI (sM (tf aT.G (hr.mono (by decide)) rfl aT.m aT.p aT.b (fI (en 1) gV rfl))) gV rfl))))
  (rj (oI (tz (sP dI.G (hr.mono (by decide)) rfl dI.m dI.p dI.b (fI (en 0) (fI (en 3) (fI (en 4) gV rfl) rfl) rfl))))
  (sJ (oI (ue (tf dR.G (hr.mono (by decide)) rfl dR.m dR.p dR.b (tq (en 0) (en 1) (en 2) (en 3) (fI (en 4) gV rfl) rfl rfl rfl rfl))))))))
theorem NJ(F:Fun K "table_of" "table_of" yV f fd){ay' ax'}(aL:uO P w K mg base ay' ax'){bi' bc'}(aT:v3 P w K mg base bi' bc'){by' br'}(dI:yZ P w K mg base by' br'){dS' de'}(dR:A4 P w K mg base dS' de'){fx_must_be_road fdx_must_be_road}(aQ:ym P w K mg base (clN K) fx_must_be_road fdx_must_be_road){fx_must_be_kin fdx_must_be_kin}(aH:wf P w K mg base (clN K) fx_must_be_kin fdx_must_be_kin):FnOk P w K mg base (CXX P w) 71 f fd ["web", "holds", "how", "house", "neighbour"] (spE K (clN K) yI):=
 uz (k:=70) (N:=["web", "holds", "how", "house", "neighbour"]) F Df E8 (λam A outer s H E B hr=>um
  (ve (oI (tz (sP aL.G (hr.mono (by decide)) rfl aL.m aL.p aL.b (fI (sM (tf aT.G (hr.mono (by decide)) rfl aT.m aT.p aT.b (fI (en 1) gV rfl))) gV rfl)))) (tx (t5 (cqX aH hr (fI (sM (tf aT.G (hr.mono (by decide)) rfl aT.m aT.p aT.b (fI (en 1) gV rfl))) gV rfl))))
  (vo (tx (t5 (cqX aQ hr (fI (en 0) (fI (en 3) (fI (en 4) gV rfl) rfl) rfl)))))))
theorem Kf:FnScope ["web", "holds", "how", "house", "neighbour", "wishes", "other"] ["web", "holds", "how", "house", "neighbour"] (defScope ya):=⟨rfl,rfl,rfl,by decide +kernel,rfl,by decide +kernel,by decide +kernel⟩
theorem K5{g:List R->Option (R×List R)}(hk:49<=kk)(F:Fun K "heard_of" "heard_of" ya f fd)(G:FnOk P w K mg base CX0 kk f fd ["web", "holds", "how", "house", "neighbour"] (spD K g)){bi' bc'}(aT:v3 P w K mg base bi' bc'){as' aq'}(aK:uD P w K mg base as' aq'){dT' df'}(dg:zU P w K mg base dT' df')(jp:Binds K fd ["web", "holds", "how", "house", "neighbour"] [])(jq:PySem.W.keepIn K (.ref f)=true)(jr:mg "heard_of"=some (.ref f)):FnOk P w K mg base CX0 (kk+1) f fd ["web", "holds", "how", "house", "neighbour"] (spD K (fnD 7 5 (yl g))):=
 sX (N:=["web", "holds", "how", "house", "neighbour", "wishes", "other"]) F Kf (yl g) (λam A outer s H E B hr=>sS
  (rj (oI (uU (i:=5) nk (tf aT.G (hr.mono (y_ (by decide) hk)) rfl aT.m aT.p aT.b (fI (sM (t9 (N':=["hold", "-web", "-holds", "-how", "-house", "neighbour", "-wishes", "-other"]) (m:=1) (CompScope.of (by kernel_rfl)) rfl (tL (en 1)) (λ_ _ _ _=>(gd_n (i:=0) (m:=1) nk)) (λ_ _ _ _=>(vn (tH hr (sL (en 0) my) (en 5)))) (λ_ _ _ _=>(en 0)))) gV rfl))))
  (rj (t8 Vq rfl (tL (sM (tf aK.G (hr.mono (y_ (by decide) hk)) rfl aK.m aK.p aK.b (fI (en 0) (fI (en 4) gV rfl) rfl)))) (gd_n (i:=6) (m:=100) nk)
  (sJ (sR (uf hr (en 6) (en 3))
  (sJ (oI (AF (pv 5) (sM (tf G hr rfl jr jq jp (tq (en 0) (en 1) (en 2) (en 4) (fI (en 6) gV rfl) rfl rfl rfl rfl)))))) sT)))
  (sJ (oI (ue (tf dg.G (hr.mono (y_ (by decide) hk)) rfl dg.m dg.p dg.b (fI (en 2) (fI (en 5) gV rfl) rfl))))))))
theorem F5{f:i_}{fd:S'}(F:Fun K "heard_of" "heard_of" ya f fd){bi' bc'}(aT:v3 P w K mg base bi' bc'){as' aq'}(aK:uD P w K mg base as' aq'){dT' df'}(dg:zU P w K mg base dT' df')(jp:Binds K fd ["web", "holds", "how", "house", "neighbour"] [])(jq:PySem.W.keepIn K (.ref f)=true)(jr:mg "heard_of"=some (.ref f)):∀n:Nat,FnOk P w K mg base CX0 (50+n) f fd ["web", "holds", "how", "house", "neighbour"] (spD K (vO n))
 | 0=>vd
 | n+1=>K5 (y_ (by decide) (S5 _ n)) F (F5 F aT aK dg jp jq jr n) aT aK dg jp jq jr
theorem CY:FnScope ["web", "holds", "how", "house", "letter", "roads", "reached", "given"] ["web", "holds", "how", "house", "letter"] (defScope xV):=⟨rfl,rfl,rfl,by decide +kernel,rfl,by decide +kernel,by decide +kernel⟩
theorem Ix(F:Fun K "led_by" "led_by" xV f fd){ay' ax'}(aL:uO P w K mg base ay' ax'){bi' bc'}(aT:v3 P w K mg base bi' bc'){aE' az'}(aN:vg P w K mg base aE' az'){hD' gd'}(iD:Fp P w K mg base hD' gd'){cX' cw'}(dS:AJ P w K mg base cX' cw'){fx_must_be_house fdx_must_be_house}(aj:vb P w K mg base (clN K) fx_must_be_house fdx_must_be_house){fx_must_be_kin fdx_must_be_kin}(aH:wf P w K mg base (clN K) fx_must_be_kin fdx_must_be_kin)(aq:mg "sorted"=none)(aF:mg "enumerate"=none):FnOk P w K mg base CX0 94 f fd ["web", "holds", "how", "house", "letter"] (spD K wj):=
 sX (k:=93) (N:=["web", "holds", "how", "house", "letter", "roads", "reached", "given"]) F CY BZ (λam A outer s H E B hr=>sS
  (rj (oI (tz (sP aL.G (hr.mono (by decide)) rfl aL.m aL.p aL.b (fI (sM (ub (sM (sZ (fI (en 4) gV rfl))) (sM (tf aT.G (hr.mono (by decide)) rfl aT.m aT.p aT.b (fI (en 1) gV rfl))))) gV rfl))))
  (rj (oI (tz (sP aN.G (hr.mono (by decide)) rfl aN.m aN.p aN.b (fI (en 0) (fI (en 3) gV rfl) rfl))))
  (rj (sO (i:=5) nk (sM (zc hr rfl aq (fI (sP iD.G (hr.mono (by decide)) rfl iD.m iD.p iD.b (tq (en 0) (en 1) (en 2) uy (fI (en 3) (fI (en 4) gV rfl) rfl) rfl rfl rfl rfl)) gV rfl))))
  (rj (sO (i:=6) nk (sM (ub (sM (sZ (fI (en 3) gV rfl))) (sM (t9 (N':=["road", "-web", "-holds", "-how", "-house", "-letter", "-roads", "-reached", "-given"]) (m:=1) (CompScope.of (by kernel_rfl)) rfl (tL (en 5)) (λ_ _ _ _=>(gd_n (i:=0) (m:=1) nk)) (λ_ _ _ _=>uk) (λ_ _ _ _=>(sL (en 0) my)))))))
  (rj (oI (xb (i:=7) (N':=["k", "hold", "-web", "-holds", "-how", "-house", "letter", "-roads", "reached", "-given"]) (m:=2) (CompScope.of (by kernel_rfl)) rfl nk (zX rfl aF (fI (en 1) gV rfl)) (λ_ _ _ _=>(uF (m:=2) rfl (tQ (gd_n (i:=0) (m:=2) nk) (tQ (gd_n (i:=1) (m:=2) nk) uI)))) (λ_ _ _ _=>(vn (TW.td (wm (Av hr (sL (en 1) my) (en 8)) (wy (v9 (sP dS.G (hr.mono (by decide)) rfl dS.m dS.p dS.b (fI (sL (en 1) my) (fI (en 6) gV rfl) rfl)))))))) (λ_ _ _ _=>(en 0))))
  (sJ (oI (sV (tv (fI (en 5) (fI (en 7) gV rfl) rfl)))))))))))
theorem Mk(F:Fun K "led_by" "led_by" xV f fd){ay' ax'}(aL:uO P w K mg base ay' ax'){bi' bc'}(aT:v3 P w K mg base bi' bc'){aE' az'}(aN:vg P w K mg base aE' az'){hD' gd'}(iD:Fp P w K mg base hD' gd'){cX' cw'}(dS:AJ P w K mg base cX' cw'){fx_must_be_house fdx_must_be_house}(aj:vb P w K mg base (clN K) fx_must_be_house fdx_must_be_house){fx_must_be_kin fdx_must_be_kin}(aH:wf P w K mg base (clN K) fx_must_be_kin fdx_must_be_kin)(aq:mg "sorted"=none)(aF:mg "enumerate"=none):FnOk P w K mg base (CXX P w) 94 f fd ["web", "holds", "how", "house", "letter"] (spE K (clN K) wK):=
 uz (k:=93) (N:=["web", "holds", "how", "house", "letter", "roads", "reached", "given"]) F CY Gv (λam A outer s H E B hr=>um
  (ve (oI (tz (sP aL.G (hr.mono (by decide)) rfl aL.m aL.p aL.b (fI (sM (ub (sM (sZ (fI (en 4) gV rfl))) (sM (tf aT.G (hr.mono (by decide)) rfl aT.m aT.p aT.b (fI (en 1) gV rfl))))) gV rfl)))) (tx (t5 (cqX aH hr (fI (sM (ub (sM (sZ (fI (en 4) gV rfl))) (sM (tf aT.G (hr.mono (by decide)) rfl aT.m aT.p aT.b (fI (en 1) gV rfl))))) gV rfl))))
  (vo (tx (t5 (cqX aj hr (fI (en 0) (fI (en 3) gV rfl) rfl)))))))
theorem Mv:FnScope ["web", "holds", "how", "came", "house", "letter", "roads", "neighbour"] ["web", "holds", "how", "came", "house", "letter"] (defScope zt):=⟨rfl,rfl,rfl,by decide +kernel,rfl,by decide +kernel,by decide +kernel⟩
theorem JS{g:List R->Option (R×List R)}(hk:72<=kk)(F:Fun K "roads_on" "roads_on" zt f fd)(G:FnOk P w K mg base CX0 kk f fd ["web", "holds", "how", "came", "house", "letter"] (spD K g)){as' aq'}(aK:uD P w K mg base as' aq'){cY' cq'}(cR:zO P w K mg base cY' cq')(ai:mg "len"=none)(jt:Binds K fd ["web", "holds", "how", "came", "house", "letter"] [])(ju:PySem.W.keepIn K (.ref f)=true)(jv:mg "roads_on"=some (.ref f)):FnOk P w K mg base CX0 (kk+1) f fd ["web", "holds", "how", "came", "house", "letter"] (spD K (fnD 8 6 (yJ g))):=
 sX (N:=["web", "holds", "how", "came", "house", "letter", "roads", "neighbour"]) F Mv (yJ g) (λam A outer s H E B hr=>sS
  (rj (oI (uU (i:=6) nk (sZ gV)))
  (rj (t8 Vq rfl (tL (sM (tf aK.G (hr.mono (y_ (by decide) hk)) rfl aK.m aK.p aK.b (fI (en 0) (fI (en 4) gV rfl) rfl)))) (gd_n (i:=7) (m:=100) nk)
  (sJ (sR (TW.td (wm (uf hr (en 7) (en 3)) (wy (yd (tT rfl ai (fI (sM (tf cR.G (hr.mono (y_ (by decide) hk)) rfl cR.m cR.p cR.b (tq (en 0) (en 1) (en 2) (en 4) (fI (en 7) (fI (en 5) gV rfl) rfl) rfl rfl rfl rfl))) gV rfl)) my))))
  (rj (oI (vZ (pv 6) (tv (fI (en 4) (fI (en 7) gV rfl) rfl))))
  (sJ (oI (AF (pv 6) (sP G hr rfl jv ju jt (tq (en 0) (en 1) (en 2) (en 4) (fI (en 7) (fI (en 5) gV rfl) rfl) rfl rfl rfl rfl)))))) sT)))
  (sJ (oI (sV (en 6)))))))
theorem Fs{f:i_}{fd:S'}(F:Fun K "roads_on" "roads_on" zt f fd){as' aq'}(aK:uD P w K mg base as' aq'){cY' cq'}(cR:zO P w K mg base cY' cq')(ai:mg "len"=none)(jt:Binds K fd ["web", "holds", "how", "came", "house", "letter"] [])(ju:PySem.W.keepIn K (.ref f)=true)(jv:mg "roads_on"=some (.ref f)):∀n:Nat,FnOk P w K mg base CX0 (73+n) f fd ["web", "holds", "how", "came", "house", "letter"] (spD K (vw n))
 | 0=>vd
 | n+1=>JS (y_ (by decide) (S5 _ n)) F (Fs F aK cR ai jt ju jv n) aK cR ai jt ju jv
theorem Lw:FnScope ["web", "holds", "how", "house", "neighbour", "letter"] ["web", "holds", "how", "house", "neighbour", "letter"] (defScope BW):=⟨rfl,rfl,rfl,by decide +kernel,rfl,by decide +kernel,by decide +kernel⟩
theorem Kb(F:Fun K "leading" "leading" BW f fd){dS' de'}(dR:A4 P w K mg base dS' de'){cX' cw'}(dS:AJ P w K mg base cX' cw'):FnOk P w K mg base CX0 71 f fd ["web", "holds", "how", "house", "neighbour", "letter"] (spD K wP):=
 sX (k:=70) (N:=["web", "holds", "how", "house", "neighbour", "letter"]) F Lw BQ (λam A outer s H E B hr=>sS
  (sJ (oI (ue (t9 (N':=["wish", "-web", "-holds", "-how", "-house", "-neighbour", "letter"]) (m:=1) (CompScope.of (by kernel_rfl)) rfl (tL (sM (tf dR.G (hr.mono (by decide)) rfl dR.m dR.p dR.b (tq (en 0) (en 1) (en 2) (en 3) (fI (en 4) gV rfl) rfl rfl rfl rfl)))) (λ_ _ _ _=>(gd_n (i:=0) (m:=1) nk)) (λ_ _ _ _=>(vn (v9 (sP dS.G (hr.mono (by decide)) rfl dS.m dS.p dS.b (fI (en 0) (fI (en 6) gV rfl) rfl))))) (λ_ _ _ _=>(en 0)))))))
theorem Fc:FnScope ["web", "holds", "how", "house", "letter", "number", "led", "way"] ["web", "holds", "how", "house", "letter", "number"] (defScope yO):=⟨rfl,rfl,rfl,by decide +kernel,rfl,by decide +kernel,by decide +kernel⟩
theorem Ly(F:Fun K "chain_to" "chain_to" yO f fd){fG' eB'}(cE:Af P w K mg base fG' eB'){cx' cd'}(b9:AE P w K mg base cx' cd'){cY' cq'}(cR:zO P w K mg base cY' cq'){fx_way_between fdx_way_between}(bu:AK P w K mg base (clN K) fx_way_between fdx_way_between){fx_led_by fdx_led_by}(cg:BD P w K mg base (clN K) fx_led_by fdx_led_by)(EX:Exs K mg)(ai:mg "len"=none)(br:mg "zip"=none):FnOk P w K mg base CX0 95 f fd ["web", "holds", "how", "house", "letter", "number"] (spD K xy):=
 sX (k:=94) (N:=["web", "holds", "how", "house", "letter", "number", "led", "way"]) F Fc AR (λam A outer s H E B hr=>sS
  (rj (sO (i:=6) nk (sP cE.G (hr.mono (by decide)) rfl cE.m cE.p cE.b (tq (en 0) (en 1) (en 2) (en 3) (fI (en 4) gV rfl) rfl rfl rfl rfl)))
  (rj (sR (vq (wM my (en 5) (tT rfl ai (fI (en 1) gV rfl))))
  (sJ (oI wu)) sT)
  (rj (sR (we hr (en 5) (sL (en 6) my))
  (sJ (oI (sV uy))) sT)
  (rj (sO (i:=7) nk (yi (sM (tf b9.G (hr.mono (by decide)) rfl b9.m b9.p b9.b (fI (en 0) (fI (en 3) (fI (sL (sL (en 1) (en 5)) my) gV rfl) rfl) rfl))) (sP b9.G (hr.mono (by decide)) rfl b9.m b9.p b9.b (fI (en 0) (fI (en 3) (fI (sL (sL (en 1) (en 5)) my) gV rfl) rfl) rfl))))
  (sJ (oI (ue (t9 (N':=["one", "other", "web", "holds", "how", "-house", "letter", "-number", "-led", "-way"]) (m:=2) (CompScope.of (by kernel_rfl)) rfl (yG rfl br (fI (en 7) (fI (vP (en 7) (vp my) vS) gV rfl) rfl)) (λ_ _ _ _=>(uF (m:=2) rfl (tQ (gd_n (i:=0) (m:=2) nk) (tQ (gd_n (i:=1) (m:=2) nk) uI)))) (λ_ _ _ _=>uk) (λ_ _ _ _=>(tv (fI (en 0) (fI (en 1) (fI (sL (sM (tf cR.G (hr.mono (by decide)) rfl cR.m cR.p cR.b (tq (en 2) (en 3) (en 4) (en 0) (fI (en 1) (fI (en 6) gV rfl) rfl) rfl rfl rfl rfl))) my) gV rfl) rfl) rfl))))))))))))
theorem NL(F:Fun K "chain_to" "chain_to" yO f fd){fG' eB'}(cE:Af P w K mg base fG' eB'){cx' cd'}(b9:AE P w K mg base cx' cd'){cY' cq'}(cR:zO P w K mg base cY' cq'){fx_way_between fdx_way_between}(bu:AK P w K mg base (clN K) fx_way_between fdx_way_between){fx_led_by fdx_led_by}(cg:BD P w K mg base (clN K) fx_led_by fdx_led_by)(EX:Exs K mg)(ai:mg "len"=none)(br:mg "zip"=none):FnOk P w K mg base (CXX P w) 95 f fd ["web", "holds", "how", "house", "letter", "number"] (spE K (clN K) zP):=
 uz (k:=94) (N:=["web", "holds", "how", "house", "letter", "number", "led", "way"]) F Fc Dv (λam A outer s H E B hr=>um
  (ve (sO (i:=6) nk (sP cE.G (hr.mono (by decide)) rfl cE.m cE.p cE.b (tq (en 0) (en 1) (en 2) (en 3) (fI (en 4) gV rfl) rfl rfl rfl rfl))) (tx (Ci (i:=6) nk (cqX cg hr (tq (en 0) (en 1) (en 2) (en 3) (fI (en 4) gV rfl) rfl rfl rfl rfl))))
  (ve (sR (vq (wM my (en 5) (tT rfl ai (fI (en 1) gV rfl))))
  (sJ (oI wu)) sT) (uJ (vq (wM my (en 5) (tT rfl ai (fI (en 1) gV rfl))))
  (tN (tx (yT rfl rfl (EX.m "NoHold" (by decide)) (EX.xc "NoHold" (by decide)) (fI (DD (by decide) (en 5)) gV rfl)))) xm)
  (Mj (sR (we hr (en 5) (sL (en 6) my))
  (sJ (oI (sV uy))) sT)
  (vo (tx (Ci (i:=7) nk (cqX bu hr (fI (en 0) (fI (en 3) (fI (sL (sL (en 1) (en 5)) my) gV rfl) rfl) rfl)))))))))
theorem Kv:FnScope ["cell", "at", "one", "two", "three"] ["cell", "at"] (defScope AT):=⟨rfl,rfl,rfl,by decide +kernel,rfl,by decide +kernel,by decide +kernel⟩
theorem IU(F:Fun K "_law_blend" "_law_blend" AT f fd) :FnOk P w K mg base CX0 2 f fd ["cell", "at"] (spD K xn):=
 sX (k:=1) (N:=["cell", "at", "one", "two", "three"]) F Kv B1 (λam A outer s H E B hr=>sS
  (rj (sR (Cc (en 0) (wZ my my))
  (sJ (oI (sV (en 0)))) sT)
  (rj (sO (i:=2) nk (ut (tu (tu (uv (ut (en 0) my) my) (uv (en 1) my)) my) my))
  (rj (sO (i:=3) nk (ut (tu (tu (uv (en 2) (en 2)) (uv (en 1) my)) (ut (en 0) my)) my))
  (rj (sO (i:=4) nk (ut (tu (tu (uv (en 3) (en 3)) (uv (en 2) my)) my) my))
  (sJ (oI (sV (tu (uv (tu (uv (en 2) my) (en 3)) my) (en 4))))))))))
theorem Ot:FnScope ["script", "cells", "k", "cell"] ["script"] (defScope BO):=⟨rfl,rfl,rfl,by decide +kernel,rfl,by decide +kernel,by decide +kernel⟩
theorem Mh(F:Fun K "_law_pot" "_law_pot" BO f fd)(aO:mg "list"=none)(aF:mg "enumerate"=none):FnOk P w K mg base CX0 2 f fd ["script"] (spD K wW):=
 sX (k:=1) (N:=["script", "cells", "k", "cell"]) F Ot Bj (λam A outer s H E B hr=>sS
  (rj (oI (uU (i:=1) nk (Cp rfl aO (fI (vP (en 0) vS (vp my)) gV rfl))))
  (rj (t8 Vq rfl (zX rfl aF (fI (vP (en 0) (vp my) (vp my)) gV rfl)) (uF (m:=100) rfl (tQ (gd_n (i:=2) (m:=100) nk) (tQ (gd_n (i:=3) (m:=100) nk) uI)))
  (sJ (oI (zu (pv 1) (ut (en 2) my) (tu (uS (pv 1) (ut (en 2) my)) (en 3))))))
  (sJ (oI (ue (sZ (fI (en 1) (fI my (fI my gV rfl) rfl) rfl))))))))
theorem JT:FnScope ["pot", "upto", "at", "cell", "found"] ["pot", "upto"] (defScope A6):=⟨rfl,rfl,rfl,by decide +kernel,rfl,by decide +kernel,by decide +kernel⟩
theorem Jp(F:Fun K "_law_pick" "_law_pick" A6 f fd){nE' m9'}(jw:JP P w K mg base nE' m9')(ai:mg "len"=none):FnOk P w K mg base CX0 3 f fd ["pot", "upto"] (spD K tE):=
 sX (k:=2) (N:=["pot", "upto", "at", "cell", "found"]) F JT Aw (λam A outer s H E B hr=>sS
  (rj (sR (vC (uS (pv 0) my) (en 1))
  (rj (sO (i:=2) nk (uS (pv 0) my))
  (rj (sO (i:=3) nk (uv my (en 2)))
  (rj (sR (vC (en 2) (tT rfl ai (fI (uS (pv 0) my) gV rfl)))
  (sJ (sO (i:=3) nk (sL (uS (pv 0) my) (en 2)))) (sJ (sR (uf hr (uS (pv 0) my) (sM (sZ gV)))
  (sJ (sO (i:=3) nk (ut (sL (uS (pv 0) my) (ut (tu (uv (en 2) my) my) (tT rfl ai (fI (uS (pv 0) my) gV rfl)))) (tu (wZ my my) (uv my (en 2)))))) sT)))
  (rj (oI (zu (pv 0) my (tu (en 2) my)))
  (sJ (oI (zu (pv 0) my (sP jw.G (hr.mono (by decide)) rfl jw.m jw.p jw.b (fI (en 3) (fI (en 2) gV rfl) rfl))))))))) sT)
  (rj (sO (i:=4) nk (ut (uS (pv 0) my) (en 1)))
  (rj (oI (zu (pv 0) my (PL (uS (pv 0) my) (en 1))))
  (sJ (oI (sV (en 4))))))))
theorem Kh:FnScope ["pot", "fields", "low", "top", "pairs", "k", "one", "other"] ["pot", "fields", "low", "top"] (defScope AX):=⟨rfl,rfl,rfl,by decide +kernel,rfl,by decide +kernel,by decide +kernel⟩
theorem K3(F:Fun K "_law_wish" "_law_wish" AX f fd){dV' dg'}(ak:Bp P w K mg base dV' dg')(aD:mg "range"=none)(bg:mg "min"=none)(bf:mg "max"=none)(aG:mg "tuple"=none):FnOk P w K mg base CX0 4 f fd ["pot", "fields", "low", "top"] (spD K xE):=
 sX (k:=3) (N:=["pot", "fields", "low", "top", "pairs", "k", "one", "other"]) F Kh Ck (λam A outer s H E B hr=>sS
  (rj (oI (uU (i:=4) nk (sZ gV)))
  (rj (t8 Vq rfl (vM rfl aD (fI (en 1) gV rfl)) (gd_n (i:=5) (m:=100) nk)
  (rj (sO (i:=6) nk (tu (en 2) (tF ak.G (hr.mono (by decide)) rfl ak.m ak.p ak.b (pv 0) (fI (en 3) gV rfl))))
  (rj (sO (i:=7) nk (tu (en 2) (tF ak.G (hr.mono (by decide)) rfl ak.m ak.p ak.b (pv 0) (fI (en 3) gV rfl))))
  (sJ (oI (vZ (pv 4) (tv (fI (y6 rfl rfl bg (fI (en 6) (fI (en 7) gV rfl) rfl)) (fI (wO rfl rfl bf (fI (en 6) (fI (en 7) gV rfl) rfl)) gV rfl) rfl))))))))
  (sJ (oI (sV (w8 rfl aG (fI (en 4) gV rfl))))))))
theorem J6:FnScope ["pot", "most", "many", "way", "order", "names", "roads", "k", "ahead", "pair"] ["pot", "most"] (defScope zZ):=⟨rfl,rfl,rfl,by decide +kernel,rfl,by decide +kernel,by decide +kernel⟩
theorem K6(F:Fun K "_law_web" "_law_web" zZ f fd){dV' dg'}(ak:Bp P w K mg base dV' dg')(aO:mg "list"=none)(aD:mg "range"=none)(ai:mg "len"=none)(bg:mg "min"=none)(bf:mg "max"=none)(aq:mg "sorted"=none)(aG:mg "tuple"=none):FnOk P w K mg base CX0 4 f fd ["pot", "most"] (spD K yu):=
 sX (k:=3) (N:=["pot", "most", "many", "way", "order", "names", "roads", "k", "ahead", "pair"]) F J6 BX (λam A outer s H E B hr=>sS
  (rj (sO (i:=2) nk (tu my (tF ak.G (hr.mono (by decide)) rfl ak.m ak.p ak.b (pv 0) (fI (en 1) gV rfl))))
  (rj (sO (i:=3) nk (tF ak.G (hr.mono (by decide)) rfl ak.m ak.p ak.b (pv 0) (fI my gV rfl)))
  (rj (oI (uU (i:=4) nk (yL rfl rfl aO rfl aD (fI (en 2) gV rfl))))
  (rj (oI (xb (i:=5) (N':=["k", "pot", "-most", "-many", "-way", "order", "-names", "-roads", "-k", "-ahead", "-pair"]) (m:=1) (CompScope.of (by kernel_rfl)) rfl nk (vM rfl aD (fI (en 2) gV rfl)) (λ_ _ _ _=>(gd_n (i:=0) (m:=1) nk)) (λ_ _ _ _=>uk) (λ_ _ _ _=>(On (pv 5) (fI (tF ak.G (hr.mono (by decide)) rfl ak.m ak.p ak.b (pv 1) (fI (Ii rfl ai (pv 5)) gV rfl)) gV rfl)))))
  (rj (oI (uU (i:=6) nk (sZ gV)))
  (rj (t8 Vq rfl (MS rfl aD (fI my (fI (en 2) gV rfl) rfl)) (gd_n (i:=7) (m:=100) nk)
  (rj (sO (i:=8) nk (sL (sM (sZ (tq (BK (en 7) my) my (tF ak.G (hr.mono (by decide)) rfl ak.m ak.p ak.b (pv 0) (fI (en 7) gV rfl)) (tF ak.G (hr.mono (by decide)) rfl ak.m ak.p ak.b (pv 0) (fI (en 7) gV rfl)) gV rfl rfl rfl rfl))) (en 3)))
  (rj (sO (i:=9) nk (tv (fI (y6 rfl rfl bg (fI (sL (en 5) (en 7)) (fI (sL (en 5) (en 8)) gV rfl) rfl)) (fI (wO rfl rfl bf (fI (sL (en 5) (en 7)) (fI (sL (en 5) (en 8)) gV rfl) rfl)) gV rfl) rfl)))
  (sJ (sR (TW.td (wG (vC (en 3) my) (xf (yd (tF ak.G (hr.mono (by decide)) rfl ak.m ak.p ak.b (pv 0) (fI my gV rfl)) my))))
  (sJ (oI (vZ (pv 6) (en 9)))) sT)))))
  (sJ (oI (sV (tv (fI (en 2) (fI (w8 rfl aG (fI (sM (zc hr rfl aq (fI (en 6) gV rfl))) gV rfl)) gV rfl) rfl))))))))))))
theorem Je:FnScope ["caught", "some"] ["caught"] (defScope zY):=⟨rfl,rfl,rfl,by decide +kernel,rfl,by decide +kernel,by decide +kernel⟩
theorem OT(F:Fun K "_law_kind" "_law_kind" zY f fd)(EX:Exs K mg)(ay:mg "isinstance"=none)(bR:mg "ValueError"=none):FnOk P w K mg base CX0 2 f fd ["caught"] (spD K ux):=
 sX (k:=1) (N:=["caught", "some"]) F Je FW (λam A outer s H E B hr=>sS
  (rj (sO (i:=1) nk (sM (sZ (fI (uH EX.tab rfl ay rfl (EX.m "NoKin" (by decide)) (en 0)) (fI (uH EX.tab rfl ay rfl (EX.m "NoHouse" (by decide)) (en 0)) (fI (uH EX.tab rfl ay rfl (EX.m "NoRoad" (by decide)) (en 0)) gV rfl) rfl) rfl))))
  (rj (sO (i:=1) nk (sM (ub (en 1) (sM (sZ (fI (uH EX.tab rfl ay rfl (EX.m "Ring" (by decide)) (en 0)) (fI (uH EX.tab rfl ay rfl (EX.m "NoHold" (by decide)) (en 0)) (fI (uH EX.tab rfl ay rfl (EX.m "NoLetter" (by decide)) (en 0)) gV rfl) rfl) rfl))))))
  (rj (sO (i:=1) nk (sM (ub (en 1) (sM (sZ (fI (uH EX.tab rfl ay rfl (EX.m "NoStep" (by decide)) (en 0)) (fI (uH EX.tab rfl ay rfl (EX.m "NoText" (by decide)) (en 0)) (fI (uH EX.tab rfl ay rfl (EX.m "NoRow" (by decide)) (en 0)) gV rfl) rfl) rfl))))))
  (rj (sO (i:=1) nk (sM (ub (en 1) (sM (sZ (fI (uH EX.tab rfl ay rfl (EX.m "NoLog" (by decide)) (en 0)) gV rfl))))))
  (rj (sR (TW.td (wG (uf hr (KW (en 1) (fI xx gV rfl)) my) (wG (vq (v9 (uH EX.tab rfl ay rfl (EX.m "RoofError" (by decide)) (en 0)))) (xf (vq (v9 (Ki EX.tab rfl ay rfl bR (en 0))))))))
  (sJ (oI (sV tK))) sT)
  (sJ (oI (sV (sL (by with_reducible exact(sM (sZ (ad_k (by kernel_rfl))))) (JM (en 1) (fI xx gV rfl))))))))))))
theorem HN:FnScope ["at", "how", "web", "holds", "one", "other", "letter", "number", "caught", "handed", "wishes", "e"] ["at", "how", "web", "holds", "one", "other", "letter", "number"] (defScope BS):=⟨rfl,rfl,rfl,by decide +kernel,rfl,by decide +kernel,by decide +kernel⟩
theorem MY(F:Fun K "_law_told" "_law_told" BS f fd){pF' nF'}(jx:JI P w K mg base pF' nF'){fG' eB'}(cE:Af P w K mg base fG' eB'){pG' nG'}(eN:Of P w K mg base pG' nG'){as' aq'}(aK:uD P w K mg base as' aq'){cx' cd'}(b9:AE P w K mg base cx' cd'){ko' jB'}(jy:JY P w K mg base ko' jB'){dT' df'}(dg:zU P w K mg base dT' df'){pH' nH'}(jz:Pd P w K mg base pH' nH'){fx_table_of fdx_table_of}(eO:NE P w K mg base (clN K) fx_table_of fdx_table_of){fx_led_by fdx_led_by}(cg:BD P w K mg base (clN K) fx_led_by fdx_led_by){fx_chain_to fdx_chain_to}(eP:N1 P w K mg base (clN K) fx_chain_to fdx_chain_to){fx_neighbours_of fdx_neighbours_of}(cS:MT P w K mg base (clN K) fx_neighbours_of fdx_neighbours_of){fx_way_between fdx_way_between}(bu:AK P w K mg base (clN K) fx_way_between fdx_way_between){fx_houses_behind fdx_houses_behind}(cT:Mp P w K mg base (clN K) fx_houses_behind fdx_houses_behind){fx_short_of fdx_short_of}(eQ:J9 P w K mg base (clN K) fx_short_of fdx_short_of)(EX:Exs K mg)(aO:mg "list"=none):FnOk P w K mg base CX0 96 f fd ["at", "how", "web", "holds", "one", "other", "letter", "number"] (spD K xC):=
 sX (k:=95) (N:=["at", "how", "web", "holds", "one", "other", "letter", "number", "caught", "handed", "wishes", "e"]) F HN BU (λam A outer s H E B hr=>sS
  (rj (sO (i:=8) nk uy)
  (rj (sO (i:=9) nk (sM (Cp rfl aO (fI (en 3) gV rfl))))
  (rj (oI (xb (i:=10) (N':=["house", "wish", "-at", "-how", "-web", "-holds", "-one", "-other", "-letter", "-number", "-caught", "-handed", "-wishes", "-e"]) (m:=2) (CompScope.of (by kernel_rfl)) rfl nk (tL (en 3)) (λ_ _ _ _=>(uF (m:=2) rfl (tQ (gd_n (i:=0) (m:=2) nk) (tQ (gd_n (i:=1) (m:=2) nk) uI)))) (λ_ _ _ _=>uk) (λ_ _ _ _=>(en 1))))
  (rj (oI (Ms (i:=8) (j:=11) EX.top nk rfl rfl (EX.m "RoofError" (by decide)) (λ_ _=>sS (sJ (sR (tH hr (en 0) my)
  (sJ (oI (tz (sM (tf jx.G (hr.mono (by decide)) rfl jx.m jx.p jx.b (tq (en 2) (en 9) (en 1) (en 4) (fI (en 5) gV rfl) rfl rfl rfl rfl)))))) (sJ (sR (tH hr (en 0) my)
  (sJ (oI (tz (sP cE.G (hr.mono (by decide)) rfl cE.m cE.p cE.b (tq (en 2) (en 9) (en 1) (en 4) (fI (en 6) gV rfl) rfl rfl rfl rfl))))) (sJ (sR (tH hr (en 0) my)
  (sJ (oI (tz (yi (sM (tf eN.G (hr.mono (by decide)) rfl eN.m eN.p eN.b (tq (en 2) (en 9) (en 1) (en 4) (fI (en 6) (fI (en 7) gV rfl) rfl) rfl rfl rfl rfl))) (sP eN.G (hr.mono (by decide)) rfl eN.m eN.p eN.b (tq (en 2) (en 9) (en 1) (en 4) (fI (en 6) (fI (en 7) gV rfl) rfl) rfl rfl rfl rfl)))))) (sJ (sR (tH hr (en 0) my)
  (sJ (oI (tz (sM (tf aK.G (hr.mono (by decide)) rfl aK.m aK.p aK.b (fI (en 2) (fI (en 4) gV rfl) rfl)))))) (sJ (sR (tH hr (en 0) my)
  (sJ (oI (tz (yi (sM (tf b9.G (hr.mono (by decide)) rfl b9.m b9.p b9.b (fI (en 2) (fI (en 4) (fI (en 5) gV rfl) rfl) rfl))) (sP b9.G (hr.mono (by decide)) rfl b9.m b9.p b9.b (fI (en 2) (fI (en 4) (fI (en 5) gV rfl) rfl) rfl)))))) (sJ (sR (tH hr (en 0) my)
  (sJ (oI (tz (sM (tf jy.G (hr.mono (by decide)) rfl jy.m jy.p jy.b (fI (en 2) (fI (en 4) (fI (en 5) gV rfl) rfl) rfl)))))) (sJ (oI (tz (sM (tf dg.G (hr.mono (by decide)) rfl dg.m dg.p dg.b (fI (en 1) (fI (en 10) gV rfl) rfl))))))))))))))))))) (λ_ _=>um (tN (uJ (tH hr (en 0) my)
  (tN (tx (t5 (cqX eO hr (tq (en 2) (en 9) (en 1) (en 4) (fI (en 5) gV rfl) rfl rfl rfl rfl))))) (tN (uJ (tH hr (en 0) my)
  (tN (tx (t5 (cqX cg hr (tq (en 2) (en 9) (en 1) (en 4) (fI (en 6) gV rfl) rfl rfl rfl rfl))))) (tN (uJ (tH hr (en 0) my)
  (tN (tx (t5 (cqX eP hr (tq (en 2) (en 9) (en 1) (en 4) (fI (en 6) (fI (en 7) gV rfl) rfl) rfl rfl rfl rfl))))) (tN (uJ (tH hr (en 0) my)
  (tN (tx (t5 (cqX cS hr (fI (en 2) (fI (en 4) gV rfl) rfl))))) (tN (uJ (tH hr (en 0) my)
  (tN (tx (t5 (cqX bu hr (fI (en 2) (fI (en 4) (fI (en 5) gV rfl) rfl) rfl))))) (tN (uJ (tH hr (en 0) my)
  (tN (tx (t5 (cqX cT hr (fI (en 2) (fI (en 4) (fI (en 5) gV rfl) rfl) rfl))))) (tN (tx (t5 (cqX eQ hr (fI (en 1) (fI (en 10) gV rfl) rfl))))))))))))))))))))
  (rj (sR (TW.td (wG (uf hr (en 9) (en 3)) (xf (uf hr (en 10) (sM (t9 (N':=["house", "wish", "-at", "-how", "-web", "-holds", "-one", "-other", "-letter", "-number", "-caught", "-handed", "-wishes", "-e"]) (m:=2) (CompScope.of (by kernel_rfl)) rfl (tL (en 3)) (λ_ _ _ _=>(uF (m:=2) rfl (tQ (gd_n (i:=0) (m:=2) nk) (tQ (gd_n (i:=1) (m:=2) nk) uI)))) (λ_ _ _ _=>uk) (λ_ _ _ _=>(en 1))))))))
  (sJ (oI (sV tK))) sT)
  (sJ (oI (sV (Bx (Iu (en 8) uy) tK (sP jz.G (hr.mono (by decide)) rfl jz.m jz.p jz.b (fI (en 8) gV rfl))))))))))))
theorem KB:FnScope ["at", "web", "holds", "one", "other", "letter", "number", "sizes", "houses"] ["at", "web", "holds", "one", "other", "letter", "number"] (defScope BN):=⟨rfl,rfl,rfl,by decide +kernel,rfl,by decide +kernel,by decide +kernel⟩
theorem OJ(F:Fun K "_law_due" "_law_due" BN f fd)(ai:mg "len"=none)(ev:mg "int"=none)(cf:mg "set"=none)(bg:mg "min"=none)(bf:mg "max"=none):FnOk P w K mg base CX0 2 f fd ["at", "web", "holds", "one", "other", "letter", "number"] (spD K zK):=
 sX (k:=1) (N:=["at", "web", "holds", "one", "other", "letter", "number", "sizes", "houses"]) F KB AI (λam A outer s H E B hr=>sS
  (rj (sO (i:=7) nk (sM (ub (sM (t9 (N':=["house", "wish", "-at", "-web", "-holds", "-one", "-other", "-letter", "-number", "-sizes", "-houses"]) (m:=2) (CompScope.of (by kernel_rfl)) rfl (tL (en 2)) (λ_ _ _ _=>(uF (m:=2) rfl (tQ (gd_n (i:=0) (m:=2) nk) (tQ (gd_n (i:=1) (m:=2) nk) uI)))) (λ_ _ _ _=>uk) (λ_ _ _ _=>(tT rfl ai (fI (en 1) gV rfl))))) (sM (xM (sM (sZ (fI (tT rfl ai (fI (en 5) gV rfl)) gV rfl))) (Fu rfl ev (fI (Hb hr (en 0) (tv (fI my (fI my gV rfl) rfl))) gV rfl)))))))
  (rj (sR (TW.td (wm (we hr (en 0) (tv (ad_k (by kernel_rfl)))) (wy (yd (NT hr rfl ai rfl cf (fI (en 7) gV rfl)) my))))
  (sJ (oI (sV tK))) sT)
  (rj (sR (tH hr (en 0) my)
  (sJ (oI (sV tK))) sT)
  (rj (sO (i:=8) nk (sM (ub (sM (sZ (fI (en 3) gV rfl))) (sM (xM (sM (sZ (fI (en 4) gV rfl))) (Fu rfl ev (fI (Hb hr (en 0) (tv (ad_k (by kernel_rfl)))) gV rfl)))))))
  (rj (sR (uf hr (sM (t9 (N':=["house", "-at", "web", "-holds", "-one", "-other", "-letter", "-number", "-sizes", "-houses"]) (m:=1) (CompScope.of (by kernel_rfl)) rfl (tL (en 8)) (λ_ _ _ _=>(gd_n (i:=0) (m:=1) nk)) (λ_ _ _ _=>(vn (TW.td (wG (vC (en 0) my) (xf (Cc (en 0) (sL (en 2) my))))))) (λ_ _ _ _=>my))) (sM (sZ gV)))
  (sJ (oI (sV tK))) sT)
  (rj (sR (TW.td (wm (Av hr (en 0) (tv (fI my (fI my gV rfl) rfl))) (wy (we hr (tv (fI (y6 rfl rfl bg (fI (en 3) (fI (en 4) gV rfl) rfl)) (fI (wO rfl rfl bf (fI (en 3) (fI (en 4) gV rfl) rfl)) gV rfl) rfl)) (sL (en 1) my)))))
  (sJ (oI (sV tK))) sT)
  (sJ (oI (sV (Bx (TW.td (wm (tH hr (en 0) my) (wy (TW.td (wG (vC (en 6) my) (xf (Cc (en 6) (tT rfl ai (fI (en 2) gV rfl))))))))) tK tK)))))))))))
theorem JR:FnScope ["script", "pot", "turn", "fields", "others", "web", "holds", "far", "k", "how", "one", "other", "spot", "fresh", "some", "letter", "number", "at", "due"] ["script"] (defScope Ca):=⟨rfl,rfl,rfl,by decide +kernel,rfl,by decide +kernel,by decide +kernel⟩
theorem My(F:Fun K "law" "law" Ca f fd){rp' pI'}(jA:HZ P w K mg base rp' pI'){dV' dg'}(ak:Bp P w K mg base dV' dg'){rq' pJ'}(jB:Nx P w K mg base rq' pJ'){pK' nI'}(eS:K0 P w K mg base pK' nI'){rt' pL'}(jC:NW P w K mg base rt' pL'){pM' nJ'}(jD:L8 P w K mg base pM' nJ')(aD:mg "range"=none)(aO:mg "list"=none)(ai:mg "len"=none)(aG:mg "tuple"=none)(bf:mg "max"=none):FnOk P w K mg base CX0 97 f fd ["script"] (spD K vI):=
 sX (k:=96) (N:=["script", "pot", "turn", "fields", "others", "web", "holds", "far", "k", "how", "one", "other", "spot", "fresh", "some", "letter", "number", "at", "due"]) F JR Cf (λam A outer s H E B hr=>sS
  (rj (oI (uU (i:=1) nk (tf jA.G (hr.mono (by decide)) rfl jA.m jA.p jA.b (fI (en 0) gV rfl))))
  (rj (t8 Vq rfl (vM rfl aD (fI my gV rfl)) (gd_n (i:=2) (m:=100) nk)
  (rj (sO (i:=3) nk (tu my (tF ak.G (hr.mono (by decide)) rfl ak.m ak.p ak.b (pv 1) (fI my gV rfl))))
  (rj (sO (i:=4) nk (sM (sZ (tq (en 3) (en 3) (tu my (ut (en 3) my)) (tu my (ut (tu (en 3) my) my)) gV rfl rfl rfl rfl))))
  (rj (sO (i:=5) nk (tF jB.G (hr.mono (by decide)) rfl jB.m jB.p jB.b (pv 1) (fI my gV rfl)))
  (rj (oI (xb (i:=6) (N':=["k", "-script", "pot", "-turn", "fields", "-others", "web", "-holds", "-far", "-k", "-how", "-one", "-other", "-spot", "-fresh", "-some", "-letter", "-number", "-at", "-due"]) (m:=1) (CompScope.of (by kernel_rfl)) rfl nk (vM rfl aD (fI (tF ak.G (hr.mono (by decide)) rfl ak.m ak.p ak.b (pv 1) (fI my gV rfl)) gV rfl)) (λ_ _ _ _=>(gd_n (i:=0) (m:=1) nk)) (λ_ _ _ _=>uk) (λ_ _ _ _=>(tv (fI (tF ak.G (hr.mono (by decide)) rfl ak.m ak.p ak.b (pv 2) (fI (sL (en 6) my) gV rfl)) (fI (tF eS.G (hr.mono (by decide)) rfl eS.m eS.p eS.b (pv 2) (fI (en 4) (fI my (fI my gV rfl) rfl) rfl)) gV rfl) rfl)))))
  (rj (sO (i:=7) nk (sM (sZ (tq (zW my) (sL (en 5) my) (wZ my my) (BK my (sL (en 5) my)) gV rfl rfl rfl rfl))))
  (sJ (t8 Vq rfl (vM rfl aD (fI my gV rfl)) (gd_n (i:=8) (m:=100) nk)
  (rj (sO (i:=9) nk (sL (sM (sZ (fI tK (fI tK gV rfl) rfl))) (tF ak.G (hr.mono (by decide)) rfl ak.m ak.p ak.b (pv 1) (fI my gV rfl))))
  (rj (sO (i:=10) nk (sL (sM (ub (sM (xM (sM (yL rfl rfl aO rfl aD (fI (sL (en 5) my) gV rfl))) my)) (en 7))) (tF ak.G (hr.mono (by decide)) rfl ak.m ak.p ak.b (pv 1) (fI (tu (uv my (sL (en 5) my)) my) gV rfl))))
  (rj (sO (i:=11) nk (sL (sM (ub (sM (xM (sM (yL rfl rfl aO rfl aD (fI (sL (en 5) my) gV rfl))) my)) (en 7))) (tF ak.G (hr.mono (by decide)) rfl ak.m ak.p ak.b (pv 1) (fI (tu (uv my (sL (en 5) my)) my) gV rfl))))
  (rj (sR (TW.td (wm (uf hr (sL (en 5) my) (tv gV)) (wy (tH hr (ut (en 8) my) my))))
  (sJ (oI (J7 (sL (sL (en 5) my) (tF ak.G (hr.mono (by decide)) rfl ak.m ak.p ak.b (pv 1) (fI (tT rfl ai (fI (sL (en 5) my) gV rfl)) gV rfl))) (uF (m:=100) rfl (tQ (gd_n (i:=10) (m:=100) nk) (tQ (gd_n (i:=11) (m:=100) nk) uI)))))) sT)
  (rj (sO (i:=12) nk (tF ak.G (hr.mono (by decide)) rfl ak.m ak.p ak.b (pv 1) (fI (tu (tT rfl ai (fI (en 6) gV rfl)) my) gV rfl)))
  (rj (sO (i:=13) nk (sM (sZ (fI (tv (fI (tF ak.G (hr.mono (by decide)) rfl ak.m ak.p ak.b (pv 1) (fI (sL (en 5) my) gV rfl)) (fI (tF eS.G (hr.mono (by decide)) rfl eS.m eS.p eS.b (pv 1) (fI (sL (en 4) (tF ak.G (hr.mono (by decide)) rfl ak.m ak.p ak.b (pv 1) (fI my gV rfl))) (fI my (fI my gV rfl) rfl) rfl)) gV rfl) rfl)) gV rfl))))
  (rj (sO (i:=14) nk (sM (ub (sM (ub (vP (en 6) vS (vp (en 12))) (sM (xM (en 13) (tF ak.G (hr.mono (by decide)) rfl ak.m ak.p ak.b (pv 1) (fI my gV rfl)))))) (vP (en 6) (vp (en 12)) vS))))
  (rj (sO (i:=15) nk (w8 rfl aG (fI (sM (t9 (N':=["field", "-script", "pot", "-turn", "-fields", "-others", "-web", "-holds", "-far", "-k", "-how", "-one", "-other", "-spot", "-fresh", "-some", "-letter", "-number", "-at", "-due"]) (m:=1) (CompScope.of (by kernel_rfl)) rfl (vM rfl aD (fI (sL (en 4) (tF ak.G (hr.mono (by decide)) rfl ak.m ak.p ak.b (pv 1) (fI my gV rfl))) gV rfl)) (λ_ _ _ _=>(gd_n (i:=0) (m:=1) nk)) (λ_ _ _ _=>uk) (λ_ _ _ _=>(tF ak.G (hr.mono (by decide)) rfl ak.m ak.p ak.b (pv 2) (fI my gV rfl))))) gV rfl)))
  (rj (sO (i:=16) nk (sL (sM (sZ (tq (tF ak.G (hr.mono (by decide)) rfl ak.m ak.p ak.b (pv 1) (fI (wO rfl rfl bf (fI my (fI (tT rfl ai (fI (en 14) gV rfl)) gV rfl) rfl)) gV rfl)) (zW my) (tT rfl ai (fI (en 14) gV rfl)) (wZ my my) gV rfl rfl rfl rfl))) (tF ak.G (hr.mono (by decide)) rfl ak.m ak.p ak.b (pv 1) (fI my gV rfl))))
  (sJ (t8 Vq rfl (vM rfl aD (fI my gV rfl)) (gd_n (i:=17) (m:=100) nk)
  (rj (sO (i:=18) nk (sP jC.G (hr.mono (by decide)) rfl jC.m jC.p jC.b (tq (en 17) (en 5) (en 14) (en 10) (fI (en 11) (fI (en 15) (fI (en 16) gV rfl) rfl) rfl) rfl rfl rfl rfl)))
  (sJ (sR (uf hr (sP jD.G (hr.mono (by decide)) rfl jD.m jD.p jD.b (tq (en 17) (en 9) (en 5) (en 14) (tq (en 10) (en 11) (en 15) (en 16) gV rfl rfl rfl rfl) rfl rfl rfl rfl)) (en 18))
  (sJ (oI (sV xx))) sT))))))))))))))))))))))
  (sJ (oI (sV xx))))))
end
structure Dn(K:PySem.W.Frag)(mg:Str->Option b_)(x:Str)(st:Sb)(f:i_)(fd:S'):Prop where
 F:Fun K x x st f fd
 m:mg x=some (.ref f)
 a:PySem.W.nsIn K Sn x=some (some (.ref f))
theorem dn{K:PySem.W.Frag}{x:Str}{st:Sb}{sl:Array (Option b_)}{kV dc:b_}(X:K.In h)(G:h.Ns Sn mg)(a:PySem.W.nsIn K Sn x=some (some (.ref f)))(l:K.lookup f=some ⟨oc,od,.func (Uh x x (defArgs st) (defBody st) (defScope st) .none kV dc pm an cd ct),sl⟩)(c:codeIn K cd x=true)(k:PySem.W.keepIn K (.ref f)=true):Dn K mg x st f (Uh x x (defArgs st) (defBody st) (defScope st) .none kV dc pm an cd ct):=⟨IB l c k,PySem.W.mg_of X G a,a⟩
section
variable{P:x_}{w:I_}{K:PySem.W.Frag}{x:Str}{st:Sb}{g:List R->Option (R×List R)}
theorem lenOf1{α:Type}{us:List α}(h:us.length=1):∃a,us=[a]:=by
 obtain⟨a,us,rfl⟩:=L_ h;exact⟨a,by rw[Sw.mp (S6 h)]⟩
theorem lenOf2{α:Type}{us:List α}(h:us.length=2):∃a b,us=[a,b]:=by
 obtain⟨a,us,rfl⟩:=L_ h;obtain⟨b,rfl⟩:=lenOf1 (S6 h);exact⟨a,b,rfl⟩
theorem lenOf3{α:Type}{us:List α}(h:us.length=3):∃a b c,us=[a,b,c]:=by
 obtain⟨a,us,rfl⟩:=L_ h;obtain⟨b,c,rfl⟩:=lenOf2 (S6 h);exact⟨a,b,c,rfl⟩
theorem lenOf4{α:Type}{us:List α}(h:us.length=4):∃a b c d,us=[a,b,c,d]:=by
 obtain⟨a,us,rfl⟩:=L_ h;obtain⟨b,c,d,rfl⟩:=lenOf3 (S6 h);exact⟨a,b,c,d,rfl⟩
theorem lenOf5{α:Type}{us:List α}(h:us.length=5):∃a b c d e,us=[a,b,c,d,e]:=by
 obtain⟨a,us,rfl⟩:=L_ h;obtain⟨b,c,d,e,rfl⟩:=lenOf4 (S6 h);exact⟨a,b,c,d,e,rfl⟩
theorem lenOf6{α:Type}{us:List α}(h:us.length=6):∃a b c d e f,us=[a,b,c,d,e,f]:=by
 obtain⟨a,us,rfl⟩:=L_ h;obtain⟨b,c,d,e,f,rfl⟩:=lenOf5 (S6 h);exact⟨a,b,c,d,e,f,rfl⟩
theorem lenOf7{α:Type}{us:List α}(h:us.length=7):∃a b c d e f g,us=[a,b,c,d,e,f,g]:=by
 obtain⟨a,us,rfl⟩:=L_ h;obtain⟨b,c,d,e,f,g,rfl⟩:=lenOf6 (S6 h);exact⟨a,b,c,d,e,f,g,rfl⟩
theorem lenOf8{α:Type}{us:List α}(h:us.length=8):∃a b c d e f g i,us=[a,b,c,d,e,f,g,i]:=by
 obtain⟨a,us,rfl⟩:=L_ h;obtain⟨b,c,d,e,f,g,i,rfl⟩:=lenOf7 (S6 h);exact⟨a,b,c,d,e,f,g,i,rfl⟩
theorem Dn.b1{p:Str}(D:Dn K mg x st f fd)(h:∀(kV dc pm:b_) (an:Option i_) (cd ct a:b_),Sc (Uh x x (defArgs st) (defBody st) (defScope st) .none kV dc pm an cd ct) ⟨[a],[]⟩=pure [(p,a)]:=by intros;rfl):Binds K fd [p] []:=D.F.binds λ_ _ _ _ _ _ us hl=>by obtain⟨a,rfl⟩:=lenOf1 hl;exact h _ _ _ _ _ _ a
theorem Dn.x1{cl:Nat->i_}{gx:List D->Option Nat}{p:Str}(D:Dn K mg x st f fd)(G:FnOk P w K mg base (CXX P w) k f fd [p] (spE K cl gx))(h:∀(kV dc pm:b_) (an:Option i_) (cd ct a:b_),Sc (Uh x x (defArgs st) (defBody st) (defScope st) .none kV dc pm an cd ct) ⟨[a],[]⟩=pure [(p,a)]:=by intros;rfl):CdX P w K mg base cl k f fd [p] gx x:=⟨G,D.b1 h,D.F.kp,D.m⟩
theorem Dn.c1{p:Str}(D:Dn K mg x st f fd)(G:FnOk P w K mg base CX0 k f fd [p] (spD K g))(h:∀(kV dc pm:b_) (an:Option i_) (cd ct a:b_),Sc (Uh x x (defArgs st) (defBody st) (defScope st) .none kV dc pm an cd ct) ⟨[a],[]⟩=pure [(p,a)]:=by intros;rfl):Cd P w K mg base k f fd [p] g x:=⟨G,D.b1 h,D.F.kp,D.m⟩
theorem Dn.b2{p:Str}(D:Dn K mg x st f fd)(h:∀(kV dc pm:b_) (an:Option i_) (cd ct a b:b_),Sc (Uh x x (defArgs st) (defBody st) (defScope st) .none kV dc pm an cd ct) ⟨[a,b],[]⟩=pure [(p,a),(q,b)]:=by intros;rfl):Binds K fd [p,q] []:=D.F.binds λ_ _ _ _ _ _ us hl=>by obtain⟨a,b,rfl⟩:=lenOf2 hl;exact h _ _ _ _ _ _ a b
theorem Dn.x2{cl:Nat->i_}{gx:List D->Option Nat}{p:Str}(D:Dn K mg x st f fd)(G:FnOk P w K mg base (CXX P w) k f fd [p,q] (spE K cl gx))(h:∀(kV dc pm:b_) (an:Option i_) (cd ct a b:b_),Sc (Uh x x (defArgs st) (defBody st) (defScope st) .none kV dc pm an cd ct) ⟨[a,b],[]⟩=pure [(p,a),(q,b)]:=by intros;rfl):CdX P w K mg base cl k f fd [p,q] gx x:=⟨G,D.b2 h,D.F.kp,D.m⟩
theorem Dn.c2{p:Str}(D:Dn K mg x st f fd)(G:FnOk P w K mg base CX0 k f fd [p,q] (spD K g))(h:∀(kV dc pm:b_) (an:Option i_) (cd ct a b:b_),Sc (Uh x x (defArgs st) (defBody st) (defScope st) .none kV dc pm an cd ct) ⟨[a,b],[]⟩=pure [(p,a),(q,b)]:=by intros;rfl):Cd P w K mg base k f fd [p,q] g x:=⟨G,D.b2 h,D.F.kp,D.m⟩
theorem Dn.b3{p r:Str}(D:Dn K mg x st f fd)(h:∀(kV dc pm:b_) (an:Option i_) (cd ct a b c:b_),Sc (Uh x x (defArgs st) (defBody st) (defScope st) .none kV dc pm an cd ct) ⟨[a,b,c],[]⟩=pure [(p,a),(q,b),(r,c)]:=by intros;rfl):Binds K fd [p,q,r] []:=D.F.binds λ_ _ _ _ _ _ us hl=>by obtain⟨a,b,c,rfl⟩:=lenOf3 hl;exact h _ _ _ _ _ _ a b c
theorem Dn.x3{cl:Nat->i_}{gx:List D->Option Nat}{p r:Str}(D:Dn K mg x st f fd)(G:FnOk P w K mg base (CXX P w) k f fd [p,q,r] (spE K cl gx))(h:∀(kV dc pm:b_) (an:Option i_) (cd ct a b c:b_),Sc (Uh x x (defArgs st) (defBody st) (defScope st) .none kV dc pm an cd ct) ⟨[a,b,c],[]⟩=pure [(p,a),(q,b),(r,c)]:=by intros;rfl):CdX P w K mg base cl k f fd [p,q,r] gx x:=⟨G,D.b3 h,D.F.kp,D.m⟩
theorem Dn.c3{p r:Str}(D:Dn K mg x st f fd)(G:FnOk P w K mg base CX0 k f fd [p,q,r] (spD K g))(h:∀(kV dc pm:b_) (an:Option i_) (cd ct a b c:b_),Sc (Uh x x (defArgs st) (defBody st) (defScope st) .none kV dc pm an cd ct) ⟨[a,b,c],[]⟩=pure [(p,a),(q,b),(r,c)]:=by intros;rfl):Cd P w K mg base k f fd [p,q,r] g x:=⟨G,D.b3 h,D.F.kp,D.m⟩
theorem Dn.b4{p r s:Str}(D:Dn K mg x st f fd)(h:∀(kV dc pm:b_) (an:Option i_) (cd ct a b c d:b_),Sc (Uh x x (defArgs st) (defBody st) (defScope st) .none kV dc pm an cd ct) ⟨[a,b,c,d],[]⟩=pure [(p,a),(q,b),(r,c),(s,d)]:=by intros;rfl):Binds K fd [p,q,r,s] []:=D.F.binds λ_ _ _ _ _ _ us hl=>by obtain⟨a,b,c,d,rfl⟩:=lenOf4 hl;exact h _ _ _ _ _ _ a b c d
theorem Dn.x4{cl:Nat->i_}{gx:List D->Option Nat}{p r s:Str}(D:Dn K mg x st f fd)(G:FnOk P w K mg base (CXX P w) k f fd [p,q,r,s] (spE K cl gx))(h:∀(kV dc pm:b_) (an:Option i_) (cd ct a b c d:b_),Sc (Uh x x (defArgs st) (defBody st) (defScope st) .none kV dc pm an cd ct) ⟨[a,b,c,d],[]⟩=pure [(p,a),(q,b),(r,c),(s,d)]:=by intros;rfl):CdX P w K mg base cl k f fd [p,q,r,s] gx x:=⟨G,D.b4 h,D.F.kp,D.m⟩
theorem Dn.c4{p r s:Str}(D:Dn K mg x st f fd)(G:FnOk P w K mg base CX0 k f fd [p,q,r,s] (spD K g))(h:∀(kV dc pm:b_) (an:Option i_) (cd ct a b c d:b_),Sc (Uh x x (defArgs st) (defBody st) (defScope st) .none kV dc pm an cd ct) ⟨[a,b,c,d],[]⟩=pure [(p,a),(q,b),(r,c),(s,d)]:=by intros;rfl):Cd P w K mg base k f fd [p,q,r,s] g x:=⟨G,D.b4 h,D.F.kp,D.m⟩
theorem Dn.b5{p r s t:Str}(D:Dn K mg x st f fd)(h:∀(kV dc pm:b_) (an:Option i_) (cd ct a b c d e:b_),Sc (Uh x x (defArgs st) (defBody st) (defScope st) .none kV dc pm an cd ct) ⟨[a,b,c,d,e],[]⟩=pure [(p,a),(q,b),(r,c),(s,d),(t,e)]:=by intros;rfl):Binds K fd [p,q,r,s,t] []:=D.F.binds λ_ _ _ _ _ _ us hl=>by obtain⟨a,b,c,d,e,rfl⟩:=lenOf5 hl;exact h _ _ _ _ _ _ a b c d e
theorem Dn.x5{cl:Nat->i_}{gx:List D->Option Nat}{p r s t:Str}(D:Dn K mg x st f fd)(G:FnOk P w K mg base (CXX P w) k f fd [p,q,r,s,t] (spE K cl gx))(h:∀(kV dc pm:b_) (an:Option i_) (cd ct a b c d e:b_),Sc (Uh x x (defArgs st) (defBody st) (defScope st) .none kV dc pm an cd ct) ⟨[a,b,c,d,e],[]⟩=pure [(p,a),(q,b),(r,c),(s,d),(t,e)]:=by intros;rfl):CdX P w K mg base cl k f fd [p,q,r,s,t] gx x:=⟨G,D.b5 h,D.F.kp,D.m⟩
theorem Dn.c5{p r s t:Str}(D:Dn K mg x st f fd)(G:FnOk P w K mg base CX0 k f fd [p,q,r,s,t] (spD K g))(h:∀(kV dc pm:b_) (an:Option i_) (cd ct a b c d e:b_),Sc (Uh x x (defArgs st) (defBody st) (defScope st) .none kV dc pm an cd ct) ⟨[a,b,c,d,e],[]⟩=pure [(p,a),(q,b),(r,c),(s,d),(t,e)]:=by intros;rfl):Cd P w K mg base k f fd [p,q,r,s,t] g x:=⟨G,D.b5 h,D.F.kp,D.m⟩
theorem Dn.b6{p r s t u:Str}(D:Dn K mg x st f fd)(h:∀(kV dc pm:b_) (an:Option i_) (cd ct a b c d e f:b_),Sc (Uh x x (defArgs st) (defBody st) (defScope st) .none kV dc pm an cd ct) ⟨[a,b,c,d,e,f],[]⟩=pure [(p,a),(q,b),(r,c),(s,d),(t,e),(u,f)]:=by intros;rfl):Binds K fd [p,q,r,s,t,u] []:=D.F.binds λ_ _ _ _ _ _ us hl=>by obtain⟨a,b,c,d,e,f,rfl⟩:=lenOf6 hl;exact h _ _ _ _ _ _ a b c d e f
theorem Dn.x6{cl:Nat->i_}{gx:List D->Option Nat}{p r s t u:Str}(D:Dn K mg x st f fd)(G:FnOk P w K mg base (CXX P w) k f fd [p,q,r,s,t,u] (spE K cl gx))(h:∀(kV dc pm:b_) (an:Option i_) (cd ct a b c d e f:b_),Sc (Uh x x (defArgs st) (defBody st) (defScope st) .none kV dc pm an cd ct) ⟨[a,b,c,d,e,f],[]⟩=pure [(p,a),(q,b),(r,c),(s,d),(t,e),(u,f)]:=by intros;rfl):CdX P w K mg base cl k f fd [p,q,r,s,t,u] gx x:=⟨G,D.b6 h,D.F.kp,D.m⟩
theorem Dn.c6{p r s t u:Str}(D:Dn K mg x st f fd)(G:FnOk P w K mg base CX0 k f fd [p,q,r,s,t,u] (spD K g))(h:∀(kV dc pm:b_) (an:Option i_) (cd ct a b c d e f:b_),Sc (Uh x x (defArgs st) (defBody st) (defScope st) .none kV dc pm an cd ct) ⟨[a,b,c,d,e,f],[]⟩=pure [(p,a),(q,b),(r,c),(s,d),(t,e),(u,f)]:=by intros;rfl):Cd P w K mg base k f fd [p,q,r,s,t,u] g x:=⟨G,D.b6 h,D.F.kp,D.m⟩
theorem Dn.b7{p r s t u v:Str}(D:Dn K mg x st f fd)(h:∀(kV dc pm:b_) (an:Option i_) (cd ct a b c d e f g:b_),Sc (Uh x x (defArgs st) (defBody st) (defScope st) .none kV dc pm an cd ct) ⟨[a,b,c,d,e,f,g],[]⟩=pure [(p,a),(q,b),(r,c),(s,d),(t,e),(u,f),(v,g)]:=by intros;rfl):Binds K fd [p,q,r,s,t,u,v] []:=D.F.binds λ_ _ _ _ _ _ us hl=>by obtain⟨a,b,c,d,e,f,g,rfl⟩:=lenOf7 hl;exact h _ _ _ _ _ _ a b c d e f g
theorem Dn.x7{cl:Nat->i_}{gx:List D->Option Nat}{p r s t u v:Str}(D:Dn K mg x st f fd)(G:FnOk P w K mg base (CXX P w) k f fd [p,q,r,s,t,u,v] (spE K cl gx))(h:∀(kV dc pm:b_) (an:Option i_) (cd ct a b c d e f g:b_),Sc (Uh x x (defArgs st) (defBody st) (defScope st) .none kV dc pm an cd ct) ⟨[a,b,c,d,e,f,g],[]⟩=pure [(p,a),(q,b),(r,c),(s,d),(t,e),(u,f),(v,g)]:=by intros;rfl):CdX P w K mg base cl k f fd [p,q,r,s,t,u,v] gx x:=⟨G,D.b7 h,D.F.kp,D.m⟩
theorem Dn.c7{p r s t u v:Str}(D:Dn K mg x st f fd)(G:FnOk P w K mg base CX0 k f fd [p,q,r,s,t,u,v] (spD K g))(h:∀(kV dc pm:b_) (an:Option i_) (cd ct a b c d e f g:b_),Sc (Uh x x (defArgs st) (defBody st) (defScope st) .none kV dc pm an cd ct) ⟨[a,b,c,d,e,f,g],[]⟩=pure [(p,a),(q,b),(r,c),(s,d),(t,e),(u,f),(v,g)]:=by intros;rfl):Cd P w K mg base k f fd [p,q,r,s,t,u,v] g x:=⟨G,D.b7 h,D.F.kp,D.m⟩
theorem Dn.b8{p r s t u v:Str}(D:Dn K mg x st f fd)(h:∀(kV dc pm:b_) (an:Option i_) (cd ct a b c d e f g i:b_),Sc (Uh x x (defArgs st) (defBody st) (defScope st) .none kV dc pm an cd ct) ⟨[a,b,c,d,e,f,g,i],[]⟩=pure [(p,a),(q,b),(r,c),(s,d),(t,e),(u,f),(v,g),(y,i)]:=by intros;rfl):Binds K fd [p,q,r,s,t,u,v,y] []:=D.F.binds λ_ _ _ _ _ _ us hl=>by obtain⟨a,b,c,d,e,f,g,i,rfl⟩:=lenOf8 hl;exact h _ _ _ _ _ _ a b c d e f g i
theorem Dn.x8{cl:Nat->i_}{gx:List D->Option Nat}{p r s t u v:Str}(D:Dn K mg x st f fd)(G:FnOk P w K mg base (CXX P w) k f fd [p,q,r,s,t,u,v,y] (spE K cl gx))(h:∀(kV dc pm:b_) (an:Option i_) (cd ct a b c d e f g i:b_),Sc (Uh x x (defArgs st) (defBody st) (defScope st) .none kV dc pm an cd ct) ⟨[a,b,c,d,e,f,g,i],[]⟩=pure [(p,a),(q,b),(r,c),(s,d),(t,e),(u,f),(v,g),(y,i)]:=by intros;rfl):CdX P w K mg base cl k f fd [p,q,r,s,t,u,v,y] gx x:=⟨G,D.b8 h,D.F.kp,D.m⟩
theorem Dn.c8{p r s t u v:Str}(D:Dn K mg x st f fd)(G:FnOk P w K mg base CX0 k f fd [p,q,r,s,t,u,v,y] (spD K g))(h:∀(kV dc pm:b_) (an:Option i_) (cd ct a b c d e f g i:b_),Sc (Uh x x (defArgs st) (defBody st) (defScope st) .none kV dc pm an cd ct) ⟨[a,b,c,d,e,f,g,i],[]⟩=pure [(p,a),(q,b),(r,c),(s,d),(t,e),(u,f),(v,g),(y,i)]:=by intros;rfl):Cd P w K mg base k f fd [p,q,r,s,t,u,v,y] g x:=⟨G,D.b8 h,D.F.kp,D.m⟩
end
theorem all_mk{P:x_}{w:I_}{K:PySem.W.Frag}(qB:mg "law"=some (.ref fa)){f0 d0}(D0:Dn K mg "must_be_kin" zF f0 d0){f1 d1}(D1:Dn K mg "has_letter" Bm f1 d1){f2 d2}(D2:Dn K mg "covers" Ak f2 d2){f3 d3}(D3:Dn K mg "in_common" Bu f3 d3){f4 d4}(D4:Dn K mg "roof_of" xU f4 d4){f5 d5}(D5:Dn K mg "is_under_another" AL f5 d5){f6 d6}(D6:Dn K mg "covered" zV f6 d6){f7 d7}(D7:Dn K mg "looked_through" yY f7 d7){f8 d8}(D8:Dn K mg "first_border" Bg f8 d8){f9 d9}(D9:Dn K mg "halves_of" A3 f9 d9){f10 d10}(jE:Dn K mg "spare_of" yB f10 d10){f11 d11}(jF:Dn K mg "must_be_house" yo f11 d11){f12 d12}(jG:Dn K mg "must_be_road" zI f12 d12){f13 d13}(jH:Dn K mg "neighbours_of" zg f13 d13){f14 d14}(jI:Dn K mg "way_between" zQ f14 d14){f15 d15}(iE:Dn K mg "way_on" yw f15 d15){f16 d16}(jJ:Dn K mg "houses_behind" yn f16 d16){f17 d17}(iF:Dn K mg "houses_from" zw f17 d17){f18 d18}(jK:Dn K mg "short_of" xY f18 d18){f19 d19}(nZ:Dn K mg "wishes_of" BG f19 d19){f20 d20}(jL:Dn K mg "table_of" yV f20 d20){f21 d21}(iG:Dn K mg "heard_of" ya f21 d21){f22 d22}(jM:Dn K mg "led_by" xV f22 d22){f23 d23}(iI:Dn K mg "roads_on" zt f23 d23){f24 d24}(n4:Dn K mg "leading" BW f24 d24){f25 d25}(jN:Dn K mg "chain_to" yO f25 d25){f26 d26}(n5:Dn K mg "_law_blend" AT f26 d26){f27 d27}(n6:Dn K mg "_law_pot" BO f27 d27){f28 d28}(n9:Dn K mg "_law_pick" A6 f28 d28){f29 d29}(og:Dn K mg "_law_wish" AX f29 d29){f30 d30}(oh:Dn K mg "_law_web" zZ f30 d30){f31 d31}(oj:Dn K mg "_law_kind" zY f31 d31){f32 d32}(om:Dn K mg "_law_told" BS f32 d32){f33 d33}(oo:Dn K mg "_law_due" BN f33 d33){f34 d34}(lP:Dn K mg "law" Ca f34 d34)(bR:mg "ValueError"=none)(cQ:mg "all"=none)(ft:mg "any"=none)(aF:mg "enumerate"=none)(ev:mg "int"=none)(ay:mg "isinstance"=none)(ai:mg "len"=none)(aO:mg "list"=none)(bf:mg "max"=none)(bg:mg "min"=none)(aD:mg "range"=none)(cf:mg "set"=none)(aq:mg "sorted"=none)(aG:mg "tuple"=none)(br:mg "zip"=none)(EX:Exs K mg):
  ∃fd:S',(∀(s:c_) (v:b_),W5 s fd ⟨[v],[]⟩ [("script", v)])/\∀base:RV,K.In base->base.Ns Sn mg->FnOk P w K mg base CX0 97 fa fd ["script"] (spD K vI):=by
 cases qB.symm.trans lP.m;refine⟨d34,λs v=>?_,λbase _ _=>?_⟩
 ·obtain⟨_,_,_,_,_,_,_,_,_,rfl,_,_⟩:=lP.F.ex;exact .of_eq rfl
 have qC:=n6.c1 (Mh (P:=P) (w:=w) (base:=base) n6.F aO aF);have qD:=n5.c2 (IU (P:=P) (w:=w) (base:=base) n5.F );have lQ:=n9.c2 (Jp n9.F qD ai);have qE:=oh.c2 (K6 oh.F lQ aO aD ai bg bf aq aG);have qF:=og.c4 (K3 og.F lQ aD bg bf aG);have qG:=oo.c7 (OJ (P:=P) (w:=w) (base:=base) oo.F ai ev cf bg bf);have C0:=D0.c1 (O2 (P:=P) (w:=w) (base:=base) D0.F EX ai);have X0:=D0.x1 (JD (P:=P) (w:=w) (base:=base) D0.F EX ai);have iJ:=nZ.c1 (KH (P:=P) (w:=w) (base:=base) nZ.F );have eT:=jF.c2 (Pt (P:=P) (w:=w) (base:=base) jF.F EX);have eU:=jF.x2 (NI (P:=P) (w:=w) (base:=base) jF.F EX);have fy:=jH.c2 (LH jH.F eT eU aq);have qH:=jH.x2 (Io jH.F eT eU aq);have jO:=jG.c3 (PM jG.F eT fy eU EX);have jP:=jG.x3 (No jG.F eT fy eU EX);have C2:=D2.c2 (Kx D2.F C0 br cQ);have C5:=D5.c2 (MW D5.F C2 ft);have C4:=D4.c1 (JE D4.F C0 C5 X0 aq cf);have X4:=D4.x1 (Ik D4.F C0 C5 X0 aq cf);have C3:=D3.c2 (Ls D3.F C0 br bf bg aG);have C8:=D8.c2 (Mm (P:=P) (w:=w) (base:=base) D8.F aF bg);have C9:=D9.c3 (Jt (P:=P) (w:=w) (base:=base) D9.F );have C7:=D7.c3 (G4 D7.F C3 C2 C8 C9 ai aG D7.b3 D7.F.kp D7.m 40);have C6:=D6.c2 (Mn D6.F C0 C7 ai aO aD);have oq:=jE.c1 (Lh jE.F C4 C6 X4);have ou:=jE.x1 (Jk jE.F C4 C6 X4);have ow:=jK.c2 (Ip jK.F oq C4 X4 ou);have qI:=jK.x2 (Nj jK.F oq C4 X4 ou);have lR:=iG.c5 (F5 iG.F iJ fy ow iG.b5 iG.F.kp iG.m 20);have qJ:=jL.c5 (Jq jL.F C0 iJ jO lR jP X0);have qK:=jL.x5 (NJ jL.F C0 iJ jO lR jP X0);have C1:=D1.c2 (Me D1.F C0 br cQ);have lU:=n4.c6 (Kb n4.F lR C1);have ox:=iI.c6 (Fs iI.F fy lU ai iI.b6 iI.F.kp iI.m 20);have lV:=jM.c5 (Ix jM.F C0 iJ eT ox C1 eU X0 aq aF);have lW:=jM.x5 (Mk jM.F C0 iJ eT ox C1 eU X0 aq aF);have oy:=iE.c4 (Cw iE.F fy iE.b4 iE.F.kp iE.m 21);have lX:=jI.c3 (M1 jI.F eT oy eU);have lY:=jI.x3 (NS jI.F eT oy eU);have qL:=jN.c6 (Ly jN.F lV lX lU lY lW EX ai br);have qM:=jN.x6 (NL jN.F lV lX lU lY lW EX ai br);have oz:=iF.c3 (CQ iF.F fy iF.b3 iF.F.kp iF.m 20);have qN:=jJ.c3 (LS jJ.F jO oz jP aq);have qO:=jJ.x3 (IK jJ.F jO oz jP aq);have qP:=oj.c1 (OT (P:=P) (w:=w) (base:=base) oj.F EX ay bR);have qQ:=om.c8 (MY om.F qJ lV qL fy lX qN ow qP qK lW qM qH lY qO qI EX aO);exact My lP.F qC lQ qE qF qG qQ aD aO ai aG bf
theorem walk{l:PySem.W.OpenLaw}{q:x_}{XP:(Str->Option b_)->RV->Prop}{YP:I_->RV->Prop}{d:DefRec}{K:Params->PySem.W.Frag}(oA:∀ns:List Int,ns.length<=63->∃rs,vI [.val (.lst (ns.map D.int))]=some (.val (.bl true),rs))(hn:l.most=some 63)(gG:d.params.defaults=[])(hY:∀(w:I_) (h:RV),YP w h->(K w.params).In h)(F:∀(w:I_) (mg:Str->Option b_) (fa:i_) (h:RV),(K w.params).In h->h.Ns Sn mg->mg d.name=some (.ref fa) →
   ∃fd:S',(∀(s:c_) (u:b_),W5 s fd ⟨[u],[]⟩ [("script", u)])/\∀base:RV,(K w.params).In base->base.Ns Sn mg->FnOk l.prog w (K w.params) mg base CX0 97 fa fd ["script"] (spD (K w.params) vI)):
  PySem.W.WalkO q cF XP YP l.row.toRowW d [] (λf vs=>PySem.call f vs):=
 Pk (n:=63) (k:=97) (x:= "script") (CX:=λ_=>CX0) (sp:=λw=>spD (K w.params) vI) hn (by decide) gG ⟨rfl,by decide,by decide,rfl⟩ hY F (λ_ H a ns hl _ hS=>IV hS (oA ns hl)) λ_ _ _ _ _ z=>z
end Own
namespace Own
open DL L2
@[simp] theorem yK:∀xs:List Int,depA (xs.map D.int)=0
 | []=>rfl
 | x::xs=>by rw[G_,depA,yK xs];rfl
@[simp] theorem Qb(xs:List Int):dep (.lst (xs.map D.int))=1:=by rw[dep,yK]
@[simp] theorem QI{b:Bool}:isNF b d .non=some (.bl (if b then !isN d else isN d)):=rfl
@[simp ↓] theorem Qc{α:Type}{F:D->Option α}{g:M D}{Q:α->Gm->Prop}:wp (un1 F g) Γ Q↔wp g Γ λd Γ1=>wp (lft (F d)) Γ1 Q:=by simp[un1]
@[simp] theorem RG{i:Int}:negI (.int i)=some (.int (-i)):=rfl
def PotOk(c:List D):Prop:=∃(ns:List Int) (at_ ag:Int),c=[.lst (ns.map .int),.int at_,.int ag]/\0<=at_
theorem II(a b:Int):∃z,cvF xn [.int a,.int b]=some (.int z):=by
 have:wpF xn [.val (.int a),.val (.int b)] λr _=>∃z,r=.val (.int z):=by
  refine uP rfl λKE hE _=>?_
  rw[B1];refine sK ?_;rintro K hK hR;simp;split
  ·exact hR _ _ (hE _ _ ⟨_,rfl,_,rfl⟩)
  ·refine hK _ ?_;refine sK ?_;rintro K hK -;simp;refine hK _ ?_;have l1:=Vx (a % 998244353*40692+b*69621+1009) (show(2147483399:Int)≠0 by decide);have u1:=UE (a % 998244353*40692+b*69621+1009) (show(0:Int) < 2147483399 by decide);generalize (a % 998244353*40692+b*69621+1009) % 2147483399=x at *;refine sK ?_;rintro K hK -;simp;refine⟨by omega,hK _ ?_⟩;have l2:=Vx (x*x+b*48271+a % 131071) (show(2147483647:Int)≠0 by decide);have u2:=UE (x*x+b*48271+a % 131071) (show(0:Int) < 2147483647 by decide);generalize (x*x+b*48271+a % 131071) % 2147483647=y at *;refine sK ?_;rintro K hK -;simp;refine⟨by omega,hK _ ?_⟩;generalize (y*y+x*17+3) % 2147483629=z at *;simp;exact hE _ _ ⟨_,rfl,_,rfl⟩
 obtain⟨r,bi,e,z,rfl⟩:=this;exact⟨z,by unfold cvF;simp only[map];rw[e]⟩
theorem tP{c:List D}{u:Int}{Q:R->List D->Prop}(hc:PotOk c)(h1:1<=u)(h2:u < 2 ^ 200)(k:∀n c',0<=n->n < u->PotOk c'->Q (.val (.int n)) c'):wpB tE c [.int u] Q:=by
 obtain⟨ns,at_,ag,rfl,h0⟩:=hc;refine Aj rfl λKE hE _=>?_
 rw[Aw];refine wF (λΓ1=>∃lZ km x y z,0<=lZ/\Γ1=[some (.bor [.lst (ns.map .int),.int lZ,.int km]),some (.val (.int u)),x,y,z]) (λK hK _=>?_) ?_
 ·simp[isMut,R.mut];split
  ·refine sK λK1 ey _=>?_
   simp[isMut,R.mut];refine ey _ ?_;refine sK λK1 ey _=>?_
   simp[isMut,R.mut];refine ey _ ?_;refine wF (λΓ1=>∃m,Γ1=[some (.bor [.lst (ns.map .int),.int at_,.int ag]),some (.val (.int u)),some (.val (.int at_)),some (.val (.int m)),none]) (λK1 ey _=>?_) ?_
   ·simp[isMut,R.mut];split
    ·rename_i h;obtain⟨a,e,m⟩:=Ai (ds:=ns.map D.int) h0 (by simpa using h);obtain⟨b,_,rfl⟩:=u_.mp m;rw[Ah e];simp;exact ey _ ⟨_,rfl⟩
    ·rename_i h;split
     ·exact ey _ ⟨_,rfl⟩
     ·rename_i h';have hl:0 < ns.length:=by cases ns with | nil=>simp at h' | cons=>simp
      refine⟨by omega,?_⟩;obtain⟨a,e,m⟩:=Ai (ds:=ns.map D.int) (i:=(at_*7+1) % (ns.length:Int)) (Vx _ (by omega)) (by simpa using UE _ (by omega));obtain⟨b,_,rfl⟩:=u_.mp m;rw[Ah e];simp;exact⟨by omega,ey _ ⟨_,rfl⟩⟩
   ·rintro Γ1 ⟨m,rfl⟩;refine sK λK1 ey _=>?_
    simp[isMut,R.mut];refine ey _ ?_;obtain⟨z,e⟩:=II m at_;simp[isMut,R.mut,e];exact hK _ ⟨_,_,_,_,_,by omega,rfl⟩
  ·exact hK _ ⟨_,_,_,_,_,h0,rfl⟩
 ·rintro Γ1 ⟨lZ,km,x,y,z,h3,rfl⟩;refine sK ?_;rintro K hK -;simp[isMut,R.mut];refine⟨by omega,hK _ ?_⟩;refine sK ?_;rintro K hK -;simp[isMut,R.mut];refine⟨⟨by omega,by simpa using h2⟩,hK _ ?_⟩;simp;exact hE _ _ _ ⟨_,rfl⟩ (k _ _ (Vx _ (by omega)) (UE _ (by omega)) ⟨_,_,_,rfl,h3⟩)
theorem xA{xs:List D}(h:(numD m xs)[i]?=some d):∃x,xs[i]?=some x/\d=.tup [.int ((m+i:Nat):Int),x]:=by
 induction xs generalizing m i with
 | nil=>simp[numD] at h
 | cons a xs ih =>
  cases i with
  | zero=>simp[numD] at h;exact⟨a,rfl,h.symm⟩
  | succ i =>
   simp only[numD,Te] at h;obtain⟨x,e1,e2⟩:=ih h;exact⟨x,by simpa using e1,by rw[e2,show m+1+i=m+(i+1) from by omega]⟩
theorem FQ{α:Type}{f:α->D}{xs:List α}{lo:Option Int}:∃ys:List α,cutD (xs.map f) lo hi=ys.map f/\(∀y∈ys,y∈xs)/\ys.length=min (HT.sIx xs.length xs.length hi - HT.sIx xs.length 0 lo) (xs.length - HT.sIx xs.length 0 lo):=by
 refine⟨(xs.drop (HT.sIx xs.length 0 lo)).take (HT.sIx xs.length xs.length hi - HT.sIx xs.length 0 lo),?_,?_,?_⟩
 ·unfold cutD;simp[map_drop,map_take]
 ·intro y h;exact Ue (SQ h)
 ·simp
theorem IC(ns:List Int):∃d,coF wW [.lst (ns.map .int)]=some d/\PotOk d:=by
 refine H0 ?_;unfold wW;refine DS rfl ?_;rw[Bj];refine sK λK hK _=>?_
 simp;refine hK _ ?_;obtain⟨cs,e,-,hl⟩:=FQ (f:=D.int) (xs:=ns) (lo:=none) (hi:=some 12);rw[e]
 have eH:cs.length=min 12 ns.length:=by
  rw[hl];simp[HT.sIx]
 refine wF (λΓ1=>∃cs,∃x y z,Γ1=[x,some (.own (map D.int cs)),y,z]) (λK hK _=>?_) ?_
 ·simp;obtain⟨ms,e,-,hm⟩:=FQ (f:=D.int) (xs:=ns) (lo:=some 12) (hi:=some 63);rw[e];refine FP (J:=λi Γ=>∃cs:List Int,∃y z,cs.length=min 12 ns.length/\Γ=[some (.val (.lst (ns.map .int))),some (.own (cs.map .int)),y,z]) ⟨cs,_,_,eH,rfl⟩ ?_ ?_
  ·rintro i d Γ hd ⟨cs,y,z,hc,rfl⟩;obtain⟨x,e1,rfl⟩:=xA hd;rw[C_,Q_] at e1;obtain⟨n,e1,rfl⟩:=e1;have hi:i < ms.length:=(o_.mp e1).1
   have sh:12 < ns.length:=by
    simp[HT.sIx] at hm;omega
   simp[isMut,R.mut];have kw:cs.length=12:=by omega
   have qR:((i:Int) % 12)=((i % 12:Nat):Int):=by omega
   rw[qR];have bD:i % 12 < cs.length:=by omega
   rw[Ah (a:=D.int cs[i % 12]) (by rw[uV];simp[bD])];simp;refine⟨(cs.set (i % 12) (cs[i % 12]+n)).map .int,?_,?_⟩
   ·unfold stF L2.ixN;rw[if_pos (by omega),if_pos (by simp;omega),show((i:Int) % 12).toNat=i % 12 from by omega];simp
   ·exact⟨cs.set (i % 12) (cs[i % 12]+n),by simpa using hc,by simp⟩
  ·rintro Γ ⟨cs,y,z,hc,rfl⟩;exact hK _ ⟨cs,_,_,_,rfl⟩
 ·rintro Γ1 ⟨cs,x,y,z,rfl⟩;simp[flR,fin];exact⟨cs,0,0,rfl,by omega⟩
noncomputable def pairD(p:Int×Int):D:=.tup [.int p.1,.int p.2]
noncomputable def wishD(w:List (Int×Int)):D:=.tup (w.map pairD)
noncomputable def letD(l:List Int):D:=.tup (l.map .int)
structure PairOk(p:Int×Int):Prop where
 lo:0<=p.1
 le:p.1<=p.2
 hi:p.2<=9
structure Wf(n:Nat)(w:List (Int×Int)):Prop where
 len:w.length=n
 all:∀p∈w,PairOk p
theorem yk{lo:Int}(h:(rngD lo n)[i]?=some d):d=.int (lo+i)/\i < n:=by
 unfold rngD at h;rw[C_,Q_] at h;obtain⟨k,h1,rfl⟩:=h;obtain⟨h2,h3⟩:=o_.mp h1;rw[VF] at h3;subst h3;exact⟨rfl,by simpa using h2⟩
@[simp] theorem Hv{lo:Int}:(rngD lo n).length=n:=by simp[rngD]
theorem Wf.app{w:List (Int×Int)}(h:Wf n w){p:Int×Int}(hp:PairOk p):Wf (n+1) (w++[p]):=by
 refine⟨by simp[h.len],λq hq=>?_⟩
 rcases P_.mp hq with h1 | h1
 ·exact h.all q h1
 ·rw[s_.mp h1];exact hp
theorem FN{c:List D}{f:Nat}{top:Int}{Q:R->List D->Prop}(hc:PotOk c)(hf:f<=100)(h1:0<=low)(h2:1<=top)(h3:low+top<=10)(k:∀w c',Wf f w->PotOk c'->Q (.val (wishD w)) c'):wpB xE c [.int f,.int low,.int top] Q:=by
 refine Aj rfl λKE hE _=>?_
 rw[Ck];refine sK ?_;rintro K hK -;refine⟨_,_,rfl,hK _ ?_⟩;show wp _ [some (.bor c),some (.val (.int f)),some (.val (.int low)),some (.val (.int top)),some (.own []),none,none,none] _;refine sK ?_;rintro K hK -;simp;refine⟨by omega,?_⟩;refine ud (J:=λi Γ=>∃c w x y z,PotOk c/\Wf i w/\Γ=[some (.bor c),some (.val (.int f)),some (.val (.int low)),some (.val (.int top)),some (.own (w.map pairD)),x,y,z]) ⟨c,[],_,_,_,hc,⟨rfl,by simp⟩,rfl⟩ ?_ ?_
 ·rintro i d Γ hd ⟨c,w,x,y,z,hc,hw,rfl⟩ KL aI - - -;obtain⟨rfl,hi⟩:=yk hd;simp;refine sK ?_;rintro K hK -;simp[isMut,R.mut];refine tP hc h2 (by omega) λn c' sj je aW=>?_
  simp;refine hK _ ?_;refine sK ?_;rintro K hK -;simp[isMut,R.mut];refine tP aW h2 (by omega) λm sk gN ij oB=>?_
  simp;refine hK _ ?_;simp[isMut,R.mut];refine⟨by have:=hw.len;omega,aI _ ?_⟩;exact⟨_,w++[(low+min n m,low+max n m)],_,_,_,oB,hw.app ⟨by simp;omega,by simp;omega,by simp;omega⟩,by rw[Vr];rfl⟩
 ·rintro Γ ⟨c,w,x,y,z,hc,hw,rfl⟩;refine hK _ ?_;rw[Hv] at hw;simp;exact hE _ _ _ ⟨_,rfl⟩ (k w c hw hc)
theorem xK{α:Type}{f:α->D}{xs:List α}{i:Int}(h0:0<=i)(h1:i < xs.length):∃x,x∈xs/\atI (xs.map f) i=some (f x):=by
 obtain⟨a,e,m⟩:=Ai (ds:=xs.map f) h0 (by simpa using h1);obtain⟨b,hb,rfl⟩:=u_.mp m;exact⟨b,hb,e⟩
theorem uw(h:∀d∈ds,dep d<=n):depA ds<=n:=by
 induction ds with
 | nil=>simp[depA]
 | cons d ds ih =>
  rw[depA];have h1:=h d m_;have h2:=ih λd hd=>h d (j_ _ hd)
  omega
theorem vz{w:List (Int×Int)}:dep (wishD w)<=2:=by
 unfold wishD;rw[dep]
 have:depA (w.map pairD)<=1:=uw λd hd=>by
  obtain⟨p,_,rfl⟩:=u_.mp hd;unfold pairD;simp[dep,depA]
 omega
noncomputable def hasB(w:List (Int×Int))(l:List Int):Bool:=(w.zip l).all λq=>decide (q.1.1<=q.2)&&decide (q.2<=q.1.2)
noncomputable def covB(a b:List (Int×Int)):Bool:=(a.zip b).all λq=>decide (q.1.1<=q.2.1)&&decide (q.2.2<=q.1.2)
@[simp] theorem QF{α:Type}{xs:List α}:Xy (λ_=>true) xs=xs:=by
 induction xs with
 | nil=>rfl
 | cons x xs ih=>simp
@[simp] theorem RS{p:Int×Int}:ixF (pairD p) (.int 0)=some (.int p.1):=rfl
@[simp] theorem Qs{p:Int×Int}:ixF (pairD p) (.int 1)=some (.int p.2):=rfl
theorem vX(h:∀d∈ds,∃xs:List D,d=.tup xs/\xs.length=n):cvF tZ [.lst ds]=some .non:=by
 refine ug rfl λK _ k2=>?_
 rw[BL];simp;refine ud (J:=λi Γ=>∃x,Γ=[some (.val (.lst ds)),x]) ⟨_,rfl⟩ ?_ ?_
 ·rintro i d Γ hd ⟨x,rfl⟩ KL aI - - -;obtain⟨xs,rfl,hx⟩:=h d (RZ hd);cases ds with
  | nil=>simp at hd
  | cons d0 ds =>
   obtain⟨ys,rfl,hy⟩:=h d0 m_;simp[hx,hy];exact aI _ ⟨_,rfl⟩
 ·rintro Γ ⟨x,rfl⟩;exact k2 _ rfl ⟨_,rfl⟩
theorem BV{a b:List D}(h:a.length=b.length):cvF tZ [.lst [.tup a,.tup b]]=some .non:=
 vX (n:=a.length) (by simp[h])
theorem G0{a b:List (Int×Int)}(h:a.length=b.length)(hl:a.length<=1000):cvF xk [wishD a,wishD b]=some (.bl (covB a b)):=by
 refine ug rfl λK k1 _=>?_
 rw[Br];refine sK ?_;rintro K hK -;simp[wishD,BV,h];refine hK _ ?_;simp;refine wx (a.zip b) (λq=>.tup [pairD q.1,pairD q.2]) (λ_=>true) (λq=>.bl (decide (q.1.1<=q.2.1)&&decide (q.2.2<=q.1.2))) ?_;simp[zG];refine⟨by omega,?_,?_⟩
 ·rintro a b n m hm;split<;>omega
 ·rw[Et];simp;exact k1 _ ⟨_,rfl⟩
theorem Cv{w:List (Int×Int)}(h:w.length=l.length)(hl:w.length<=1000):cvF vF [wishD w,letD l]=some (.bl (hasB w l)):=by
 refine ug rfl λK k1 _=>?_
 rw[Ch];refine sK ?_;rintro K hK -;simp[wishD,letD,BV,h];refine hK _ ?_;simp;refine wx (w.zip l) (λq=>.tup [pairD q.1,.int q.2]) (λ_=>true) (λq=>.bl (decide (q.1.1<=q.2)&&decide (q.2<=q.1.2))) ?_;simp[zG];refine⟨by omega,?_,?_⟩
 ·rintro a b n hm;split<;>omega
 ·rw[Et];simp;exact k1 _ ⟨_,rfl⟩
theorem HD{xs:List Nat}(h:∀x∈xs,x<=m):xs.sum<=xs.length*m:=by
 induction xs with
 | nil=>simp
 | cons x xs ih =>
  have h1:=h x m_;have h2:=ih λx hx=>h x (j_ _ hx)
  rw[sum_cons,R8,W9];omega
noncomputable def rngL(lo hi:Int):List Int:=(Sx (hi+1 - lo).toNat).map λk:Nat=>lo+(k:Int)
theorem wg{lo hi:Int}(h:hi < lo):rngL lo hi=[]:=by
 unfold rngL;rw[show(hi+1 - lo).toNat=0 by omega];rfl
theorem xO{lo hi:Int}(h:lo<=hi):rngL lo hi=lo::rngL (lo+1) hi:=by
 unfold rngL;rw[show(hi+1 - lo).toNat=(hi+1 - (lo+1)).toNat+1 by omega,TB];simp;intro a _;omega
theorem LA{lo hi n:Int}:n∈rngL lo hi↔lo<=n/\n<=hi:=by
 unfold rngL;simp;constructor
 ·rintro⟨k,h1,rfl⟩;omega
 ·rintro⟨h1,h2⟩;exact⟨(n - lo).toNat,by omega,by omega⟩
theorem Iz{a b c d:Int}:(rngL a b).filter (λn=>decide (c<=n)&&decide (n<=d))=rngL (max a c) (min b d):=by
 obtain⟨m,hm⟩:∃m:Nat,(b+1 - a).toNat=m:=⟨_,rfl⟩
 induction m generalizing a with
 | zero=>rw[wg (by omega),wg (by omega)];rfl
 | succ m ih =>
  rw[xO (by omega),U4,ih (a:=a+1) (by omega)];by_cases h1:c<=a
  ·by_cases h2:a<=d
   ·rw[if_pos (by simp[h1,h2]),xO (lo:=max a c) (by omega),show max a c=a by omega,show max (a+1) c=a+1 by omega]
   ·rw[if_neg (by simp[h2]),wg (by omega),wg (by omega)]
  ·rw[if_neg (by simp[h1]),show max (a+1) c=max a c by omega]
noncomputable def lettersR:List (Int×Int)->List (List Int)
 | []=>[[]]
 | p::w=>(rngL p.1 p.2).flatMap λn=>(lettersR w).map (n::·)
theorem AA{w:List (Int×Int)}:l∈lettersR w↔l.length=w.length/\hasB w l=true:=by
 induction w generalizing l with
 | nil=>simp[lettersR,hasB]
 | cons p w ih =>
  cases l with
  | nil=>simp[lettersR]
  | cons n l =>
   simp[lettersR,LA,hasB] at ih ⊢;constructor
   ·rintro⟨h1,h2⟩;obtain⟨h3,h4⟩:=ih.mp h2;exact⟨h3,h1,h4⟩
   ·rintro⟨h1,h2,h3⟩;exact⟨h2,ih.mpr ⟨h1,h3⟩⟩
noncomputable def mixB(a b:List (Int×Int)):List (Int×Int):=(a.zip b).map λq=>(max q.1.1 q.2.1,min q.1.2 q.2.2)
noncomputable def okB(w:List (Int×Int)):Bool:=w.all λp=>decide (p.1<=p.2)
theorem IF{a b:List (Int×Int)}(h:a.length=b.length):(lettersR a).filter (hasB b)=if okB (mixB a b)=true then lettersR (mixB a b) else[]:=by
 induction a generalizing b with
 | nil =>
  cases b with
  | nil=>simp[lettersR,mixB,okB,hasB]
  | cons q b=>simp at h
 | cons p a ih =>
  cases b with
  | nil=>simp at h
  | cons q b =>
   have ih:=ih (b:=b) (by simpa using h)
   have e1:((lettersR (p::a)).filter (hasB (q::b)))=((rngL p.1 p.2).filter λn=>decide (q.1<=n)&&decide (n<=q.2)).flatMap λn=>((lettersR a).filter (hasB b)).map (n::·):=by
    rw[lettersR,List.filter_flatMap];generalize rngL p.1 p.2=ns
    induction ns with
    | nil=>rfl
    | cons n ns ihn =>
     rw[R9,ihn,U4];by_cases hq:q.1<=n/\n<=q.2
     ·rw[if_pos (by simp[hq]),R9]
      congr 1
      rw[List.filter_map]
      congr 2
      funext l
      simp[hasB,hq]
     ·rw[if_neg (by simpa using hq)]
      have:(Xy (hasB (q::b)) ((lettersR a).map (n::·)))=[]:=by
       rw[V7];intro l hl;simp at hl;obtain⟨l',_,rfl⟩:=hl;simp[hasB];intro h1 h2;omega
      rw[this,List.nil_append]
   rw[e1,Iz,ih];have e2:mixB (p::a) (q::b)=(max p.1 q.1,min p.2 q.2)::mixB a b:=by simp[mixB]
   rw[e2];have e3:okB ((max p.1 q.1,min p.2 q.2)::mixB a b)=(decide (max p.1 q.1<=min p.2 q.2)&&okB (mixB a b)):=by simp only[okB,S0]
   rw[e3];by_cases h1:okB (mixB a b)=true
   ·rw[if_pos h1];by_cases h2:max p.1 q.1<=min p.2 q.2
    ·rw[if_pos (by rw[h1];simpa using h2),lettersR]
    ·rw[if_neg (by rw[h1];simpa using h2),wg (by omega)];rfl
   ·rw[if_neg h1,if_neg (by simp[h1])];simp
theorem OE{a b:List (Int×Int)}(h:a.length=b.length)(hl:a.length<=1000):cvF xR [wishD a,wishD b]=some (if okB (mixB a b)=true then wishD (mixB a b) else .non):=by
 refine ug rfl λKE k1 _=>?_
 rw[AN];refine sK ?_;rintro K hK -;simp[wishD,BV,h];refine hK _ ?_;refine sK ?_;rintro K hK -;simp;refine hK _ ?_;refine sK ?_;rintro K hK hR;simp[zG];refine ud (J:=λi Γ=>∃x3 x4 x5 x6,okB ((mixB a b).take i)=true/\Γ=[some (.val (wishD a)),some (.val (wishD b)),some (.own (((mixB a b).take i).map pairD)),x3,x4,x5,x6]) ⟨_,_,_,_,rfl,rfl⟩ ?_ ?_
 ·rintro i d Γ hd ⟨x3,x4,x5,x6,ho,rfl⟩ KL aI - - iK;rw[C_,Q_] at hd;obtain⟨q,hq,rfl⟩:=hd;obtain⟨hi,cZ⟩:=o_.mp hq;have hm:(mixB a b)[i]?=some (max q.1.1 q.2.1,min q.1.2 q.2.2):=by unfold mixB;rw[C_,hq];rfl
  simp;refine sK ?_;rintro K hK -;simp;refine hK _ ?_;refine sK ?_;rintro K hK -;simp;refine hK _ ?_;refine sK ?_;rintro K hK fz;simp;split
  ·rename_i so
   have:okB (mixB a b)=false:=by
    rw[←WB];intro gF;have:=n_.mp gF _ (RZ hm);simp only[decide_eq_true_eq] at this;omega
   rw[this] at k1;exact fz _ _ (iK _ _ (hR _ _ (k1 _ ⟨_,rfl⟩)))
  ·rename_i sr;refine hK _ ?_;simp[isMut,R.mut];have aR:(mixB a b).length=min a.length b.length:=by simp[mixB]
   have fZ:(mixB a b).take (i+1)=(mixB a b).take i++[(max q.1.1 q.2.1,min q.1.2 q.2.2)]:=by rw[Uq,hm];rfl
   refine⟨by omega,aI _ ⟨some (.val (pairD q.1)),some (.val (pairD q.2)),some (.val (.int (max q.1.1 q.2.1))),some (.val (.int (min q.1.2 q.2.2))),?_,?_⟩⟩
   ·rw[fZ];unfold okB at ho ⊢;rw[List.all_append,ho];simp only[S0,List.all_nil,Bool.and_true,Bool.true_and,decide_eq_true_eq];omega
   ·rw[fZ,Vr];simp[pairD,wishD]
 ·rintro Γ ⟨x3,x4,x5,x6,ho,rfl⟩;refine hK _ ?_;have aR:(mixB a b).length=(a.zip b).length:=by simp[mixB]
  rw[q_,←aR,Tj] at ho ⊢;simp;rw[if_pos ho] at k1;exact k1 _ ⟨_,rfl⟩
theorem GY(p:Int×Int):ltP p p=false:=by simp[ltP]
theorem EC{p q:Int×Int}:ltP p q=true↔p.1 < q.1\/(p.1=q.1/\p.2 < q.2):=by
 unfold ltP;by_cases a:p.1=q.1
 ·simp[a]
 ·rw[if_neg (by simpa using a)];simp[a]
theorem Nm{p q r:Int×Int}(h1:ltP p q=true)(h2:ltP q r=true):ltP p r=true:=by
 rw[EC] at *;omega
theorem Ea(ps:List (Int×Int)):∀k i,i<=k->btP ps i (PySem.argBest (btP ps) k)=false
 | 0,i,h=>by
  obtain rfl:i=0:=by omega
  exact GY _
 | k+1,i,h=>by
  have ih:=Ea ps k;rw[PySem.argBest];split
  ·rename_i lt
   rcases UC k i with g | g
   ·obtain rfl:i=k+1:=by omega
    exact GY _
   ·have:=ih i g;by_cases z:btP ps i (k+1)=true
    ·rw[show btP ps i _=true from Nm z lt] at this;cases this
    ·simpa using z
  ·rename_i nA
   rcases UC k i with g | g
   ·obtain rfl:i=k+1:=by omega
    simpa using nA
   ·exact ih i g
theorem PQ{ps:List (Int×Int)}(h:ps≠[]):minP ps∈ps/\∀q∈ps,ltP q (minP ps)=false:=by
 have pos:0 < ps.length:=U9.mpr h;have low:=Ge (btP ps) (ps.length - 1);constructor
 ·unfold minP;rw[h_,g_ (by omega)];exact Sf _
 ·intro q hq;obtain⟨i,hi,rfl⟩:=TL hq;have:=Ea ps (ps.length - 1) i (by omega);unfold btP at this;rw[h_,g_ hi] at this;exact this
noncomputable def leftB(ws:List (List (Int×Int)))(l:List Int):Bool:=ws.all λw=>!hasB w l
noncomputable def firstL(ws:List (List (Int×Int)))(p:List (Int×Int)):Option (List Int):=(lettersR p).find? (leftB ws)
theorem xt(a b:List (Int×Int)):lettersR (a++b)=(lettersR a).flatMap λl=>(lettersR b).map (l++·):=by
 induction a with
 | nil=>simp[lettersR]
 | cons p a ih =>
  rw[List.cons_append,lettersR,ih,lettersR,W2]
  congr 1
  funext n
  simp[VY,List.flatMap_map,X9]
theorem FU{w:List (Int×Int)}(h:okB w=true):∃t,lettersR w=w.map (·.1)::t:=by
 induction w with
 | nil=>exact⟨[],rfl⟩
 | cons p w ih =>
  simp only[okB,S0,J_,decide_eq_true_eq] at h;obtain⟨t,e⟩:=ih (by simpa[okB] using h.2);rw[lettersR,xO h.1,R9,e];simp
theorem OK{lo a hi:Int}(h1:lo<=a)(h2:a<=hi):rngL lo hi=rngL lo a++rngL (a+1) hi:=by
 obtain⟨m,hm⟩:∃m:Nat,(a+1 - lo).toNat=m:=⟨_,rfl⟩
 induction m generalizing lo with
 | zero=>omega
 | succ m ih =>
  rw[xO (by omega:lo<=hi),xO h1];by_cases z:lo=a
  ·subst z;rw[wg (by omega:lo < lo+1)];rfl
  ·rw[ih (lo:=lo+1) (by omega) (by omega)];rfl
theorem Fv{lo a hi:Int}{q:List (Int×Int)}(h1:lo<=a)(h2:a<=hi):lettersR ((lo,hi)::q)=lettersR ((lo,a)::q)++lettersR ((a+1,hi)::q):=by
 simp only[lettersR];rw[OK h1 h2,SN]
theorem Iw{pre q:List (Int×Int)}{P P':List Int->Bool}(ok:okB pre=true)(h:∀a∈lettersR pre,∀x∈lettersR q,P (a++x)=P' x):(lettersR (pre++q)).find? P=((lettersR q).find? P').map (pre.map (·.1)++·):=by
 obtain⟨t,e⟩:=FU ok;rw[xt];cases f:(lettersR q).find? P' with
 | none =>
  rw[VL] at f;simp only[Option.map_none,VL];intro y hy;rw[SB] at hy;obtain⟨a,ha,hy⟩:=hy;rw[u_] at hy;obtain⟨x,hx,rfl⟩:=hy;rw[h a ha x hx];exact f x hx
 | some x =>
  rw[e,R9,Xm,List.find?_map]
  have:(lettersR q).find? (P∘(pre.map (·.1)++·))=(lettersR q).find? P':=by
   have hx:∀x∈lettersR q,P (pre.map (·.1)++x)=P' x:=λx hx=>h _ (by rw[e];exact m_) x hx
   generalize lettersR q=Q at hx
   induction Q with
   | nil=>rfl
   | cons y Q ih =>
    rw[List.find?_cons,List.find?_cons,ih λx dO=>hx x (j_ _ dO)];rw[show(P∘(pre.map (·.1)++·)) y=P' y from hx y m_]
  rw[this,f];rfl
theorem LQ{a b:List (Int×Int)}{x y:List Int}(h:a.length=x.length):hasB (a++b) (x++y)=(hasB a x&&hasB b y):=by
 unfold hasB;rw[List.zip_append h,List.all_append]
theorem OF(a b:List (Int×Int)):mixB a b=mixB b a:=by
 unfold mixB
 induction a generalizing b with
 | nil=>simp
 | cons p a ih =>
  cases b with
  | nil=>simp
  | cons q b =>
   simp only[Tv,G_];rw[ih b,Int.max_comm,Int.min_comm]
theorem Pb{w:List (Int×Int)}(h:w.length=p.length)(no:okB (mixB w p)=false):∀l∈lettersR p,hasB w l=false:=by
 have:=IF h.symm;rw[OF,no] at this;simp only[T7,if_false] at this;intro l hl;have:=V7.mp this l hl;simpa using this
theorem EN{w:List (Int×Int)}(h:w.length=p.length)(c:covB w p=true):∀l∈lettersR p,hasB w l=true:=by
 intro l hl;obtain⟨h1,h2⟩:=AA.mp hl;clear hl
 induction w generalizing p l with
 | nil=>simp[hasB]
 | cons a w ih =>
  cases p with
  | nil=>simp at h
  | cons b p =>
   cases l with
   | nil=>simp at h1
   | cons n l =>
    simp only[covB,hasB,Tv,S0,J_,decide_eq_true_eq] at c h2 ⊢;exact⟨by omega,ih (by simpa using h) c.2 l (by simpa using h1) h2.2⟩
noncomputable def hv1(p:List (Int×Int))(f:Nat)(a:Int):List (Int×Int):=p.take f++[((p.getD f (0,0)).1,a)]++p.drop (f+1)
noncomputable def hv2(p:List (Int×Int))(f:Nat)(a:Int):List (Int×Int):=p.take f++[(a+1,(p.getD f (0,0)).2)]++p.drop (f+1)
theorem yW{f:Nat}(hf:f < p.length):p=p.take f++p.getD f (0,0)::p.drop (f+1):=by
 conv=>lhs;rw[←Tf f p,R7 hf]
 rw[h_,g_ hf];rfl
theorem Py{f:Nat}{a:Int}(ok:okB p=true)(hf:f < p.length)(len:∀w∈ws,w.length=p.length)(h1:(p.getD f (0,0)).1<=a)(h2:a<=(p.getD f (0,0)).2)(aV:∀w∈ws,(∀l∈lettersR p,hasB w l=false)\/covB (w.take f) (p.take f)=true):firstL ws p=(firstL ws (hv1 p f a)).or (firstL ws (hv2 p f a)):=by
 have qS:okB (p.take f)=true:=n_.mpr λx hx=>n_.mp ok x (SQ hx)
 obtain⟨bs,hb⟩:∃bs:List (List (Int×Int)),bs=ws.filter λw=>covB (w.take f) (p.take f):=⟨_,rfl⟩
 have bq:∀x∈lettersR (p.take f),∀y:List Int,x++y∈lettersR p->leftB ws (x++y)=leftB (bs.map (·.drop f)) y:=by
  intro x hx y hy;obtain⟨lx,_⟩:=AA.mp hx;unfold leftB;rw[hb];clear hb bs
  induction ws with
  | nil=>rfl
  | cons w ws ih =>
   have ih:=ih (λw hw=>len w (j_ _ hw)) λw hw=>aV w (j_ _ hw)
   rw[S0,ih,U4];have lw:=len w m_;have lt:(w.take f).length=(p.take f).length:=by simp[lw]
   by_cases c:covB (w.take f) (p.take f)=true
   ·rw[if_pos c,G_,S0]
    congr 2
    conv=>lhs;rw[←Tf f w]
    rw[LQ (by rw[lx,lt]),EN lt c x hx];rfl
   ·rw[if_neg c]
    rcases aV w m_ with n | n
    ·rw[n _ hy];rfl
    ·exact absurd n c
 have sub:∀q:List (Int×Int),(∀y∈lettersR q,y∈lettersR (p.getD f (0,0)::p.drop (f+1)))->firstL ws (p.take f++q)=((lettersR q).find? (leftB (bs.map (·.drop f)))).map ((p.take f).map (·.1)++·):=by
  intro q hq;refine Iw qS λx hx y hy=>bq x hx y ?_
  rw[yW hf,xt,SB];exact⟨x,hx,u_.mpr ⟨y,hq y hy,rfl⟩⟩
 have cut:=Fv (q:=p.drop (f+1)) h1 h2;rw[show firstL ws p=firstL ws (p.take f++p.getD f (0,0)::p.drop (f+1)) by rw[←yW hf],sub _ λy h=>h];unfold hv1 hv2
 rw[Tp,Tp,Tz,Tz,sub _ λy h=>by rw[show p.getD f (0,0)=((p.getD f (0,0)).1,(p.getD f (0,0)).2) from rfl,cut];exact Sk _ h,
  sub _ λy h=>by rw[show p.getD f (0,0)=((p.getD f (0,0)).1,(p.getD f (0,0)).2) from rfl,cut];exact M_ _ h]
 rw[show p.getD f (0,0)=((p.getD f (0,0)).1,(p.getD f (0,0)).2) from rfl,cut,Xm]
 cases(lettersR (((p.getD f (0,0)).1,a)::p.drop (f+1))).find? (leftB (bs.map (·.drop f)))<;>rfl
theorem NZ{f:Nat}{a:Int}(hf:f < p.length)(hl:p.length<=1000):cvF ze [wishD p,.int f,.int a]=some (.tup [wishD (hv1 p f a),wishD (hv2 p f a)]):=by
 obtain⟨pr,hp⟩:∃pr,p[f]?=some pr:=⟨_,g_ hf⟩;have e0:p.getD f (0,0)=pr:=by rw[h_,hp];rfl
 have e1:atI (p.map pairD) (f:Int)=some (pairD pr):=by rw[DL.uV];simp[hp]
 have e2:slF (.tup (p.map pairD)) none (some (f:Int))=some (.tup ((p.map pairD).take f)):=NU (by simpa using hf);have e3:slF (.tup (p.map pairD)) (some ((f:Int)+1)) none=some (.tup ((p.map pairD).drop (f+1))):=JA (n:=f+1) (by simp;omega) (by omega);refine ug rfl λKE k1 _=>?_
 rw[BY];refine sK ?_;rintro K hK -;simp[wishD,e2];refine hK _ ?_;refine sK ?_;rintro K hK -;simp[e3];refine hK _ ?_;refine sK ?_;rintro K hK -;simp[e1];refine hK _ ?_;refine sK ?_;rintro K hK -;simp[e1];refine hK _ ?_;simp;refine⟨by omega,by omega,by omega,by omega,?_⟩;have k3:=k1 [some (.val (wishD p)),some (.val (.int f)),some (.val (.int a)),some (.val (.tup (List.take f (map pairD p)))),some (.val (.tup (List.drop (f+1) (map pairD p)))),some (.val (.int pr.1)),some (.val (.int pr.2))] ⟨_,rfl⟩;simpa[wishD,hv1,hv2,e0,pairD,hp,map_take,map_drop] using k3
noncomputable def bdL(g:Nat)(pr wr:Int×Int):List (Int×Int):=(if pr.1 < wr.1 then[((g:Int),wr.1 - 1)] else[])++if wr.2 < pr.2 then[((g:Int),wr.2)] else[]
noncomputable def bdsL(ws:List (List (Int×Int)))(p:List (Int×Int))(g:Nat):List (Int×Int):=ws.flatMap λw=>bdL g (p.getD g (0,0)) (w.getD g (0,0))
noncomputable def bordersL(ws:List (List (Int×Int)))(p:List (Int×Int)):List (Int×Int):=(Sx p.length).flatMap (bdsL ws p)
theorem yj{α β:Type}{f:α->List β}{xs:List α}(h:∀x∈xs,(f x).length<=m):(xs.flatMap f).length<=xs.length*m:=by
 induction xs with
 | nil=>simp
 | cons x xs ih =>
  have h1:=h x m_;have h2:=ih λx hx=>h x (j_ _ hx)
  rw[R9,v_,R8,W9];omega
theorem CU{g:Nat}{wr:Int×Int}:(bdL g pr wr).length<=2:=by
 unfold bdL;split<;>split<;>simp
theorem O5:prsD (L.map pairD)=some L:=by
 induction L with
 | nil=>rfl
 | cons x L ih=>simp only[G_,pairD,prsD] at ih ⊢;rw[ih]
theorem Jm(h:L≠[]):minlF [.lst (L.map pairD)]=some (pairD (minP L)):=by
 cases L with
 | nil=>exact absurd rfl h
 | cons x L=>unfold minlF;simp only;rw[O5];rfl
theorem Lj{w:List (Int×Int)}{g:Nat}(h:g < w.length):atI (w.map pairD) (g:Int)=some (pairD (w.getD g (0,0))):=by
 rw[DL.uV,h_];simp[h]
theorem PK(hw:∀w∈ws,w.length=p.length)(hp:p.length<=100)(hl:ws.length<=100)(ne:bordersL ws p≠[]):cvF yF [.lst (ws.map wishD),wishD p]=some (pairD (minP (bordersL ws p))):=by
 refine ug rfl λKE k1 _=>?_
 rw[AG];refine sK ?_;rintro K hK -;simp;refine hK _ ?_;refine sK ?_;rintro K hK -;simp[wishD]
 have cj:∀i,i<=100->((Sx i).flatMap (bdsL ws p)).length<=20000:=λi hi=>by
  refine y_ (yj (m:=200) λg _=>y_ (yj (m:=2) λw _=>CU) (by omega)) ?_;simp;omega
 refine ud (J:=λi Γ=>∃x3 x4 x5,Γ=[some (.val (.lst (ws.map wishD))),some (.val (wishD p)),some (.own (((Sx i).flatMap (bdsL ws p)).map pairD)),x3,x4,x5]) ⟨_,_,_,rfl⟩ ?_ ?_
 ·rintro i d Γ hd ⟨x3,x4,x5,rfl⟩ KL aI - - -;obtain⟨x,e1,rfl⟩:=xA hd;rw[C_,Q_] at e1;obtain⟨pr,e1,rfl⟩:=e1;have hi:i < p.length:=(o_.mp e1).1;have qT:p.getD i (0,0)=pr:=by rw[h_,e1];rfl
  simp;refine ud (J:=λj Γ=>∃x5,Γ=[some (.val (.lst (ws.map wishD))),some (.val (wishD p)),some (.own (((Sx i).flatMap (bdsL ws p)++(ws.take j).flatMap λw=>bdL i pr (w.getD i (0,0))).map pairD)),some (.val (.int i)),some (.val (pairD pr)),x5]) ⟨x5,by simp⟩ ?_ ?_
  ·rintro j d Γ hd ⟨x5,rfl⟩ KL aI - - -;rw[C_,Q_] at hd;obtain⟨w,oC,rfl⟩:=hd;have jQ:=hw w (RZ oC);have fZ:ws.take (j+1)=ws.take j++[w]:=by rw[Uq,oC];rfl
   have aw:=Lj (w:=w) (g:=i) (by omega);obtain⟨wr,oD⟩:∃wr,w.getD i (0,0)=wr:=⟨_,rfl⟩;rw[oD] at aw
   have iL:(((Sx i).flatMap (bdsL ws p))++(ws.take j).flatMap λw=>bdL i pr (w.getD i (0,0))).length<=30000:=by
    have b1:=cj i (by omega);have b2:((ws.take j).flatMap λw=>bdL i pr (w.getD i (0,0))).length<=200:=y_ (yj (m:=2) λw _=>CU) (by simp;omega);rw[v_];omega
   rw[fZ,SN] at aI;simp only[R9,List.flatMap_nil,SO,oD] at aI;generalize ((Sx i).flatMap (bdsL ws p))=A at aI iL ⊢;generalize ((ws.take j).flatMap λw=>bdL i pr (w.getD i (0,0)))=C at aI iL ⊢;have rC:A.length+C.length<=30000:=by simpa using iL
   simp;refine wF (λΓ=>Γ=[some (.val (.lst (ws.map wishD))),some (.val (wishD p)),some (.own ((A++C++if pr.1 < wr.1 then[((i:Int),wr.1 - 1)] else[]).map pairD)),some (.val (.int i)),some (.val (pairD pr)),some (.val (wishD w))]) ?_ ?_
   ·rintro K hK -;simp[isMut,R.mut,wishD,aw];split
    ·rename_i h;refine⟨by omega,hK _ ?_⟩;simp[wishD,pairD,h]
    ·rename_i h;refine hK _ ?_;rw[if_neg h];simp[wishD]
   ·rintro Γ rfl;simp[isMut,R.mut,wishD,aw];split
    ·rename_i h;refine⟨by split<;>simp<;>omega,aI _ ⟨some (.val (wishD w)),?_⟩⟩;unfold bdL;rw[if_pos h];simp[wishD,pairD]
    ·rename_i h;refine aI _ ⟨some (.val (wishD w)),?_⟩;unfold bdL;rw[if_neg h];simp[wishD]
  ·rintro Γ ⟨x5,rfl⟩;refine aI _ ⟨some (.val (.int i)),some (.val (pairD pr)),x5,?_⟩;rw[q_,Tj,List.range_succ,SN];simp[bdsL,qT,e1]
 ·rintro Γ ⟨x3,x4,x5,rfl⟩;refine hK _ ?_
  have hn:∀ds:List D,(numD 0 ds).length=ds.length:=by
   have:∀(ds:List D) m,(numD m ds).length=ds.length:=λds=>by
    induction ds with
    | nil=>intro m;rfl
    | cons d ds ih=>intro m;simp[numD,ih]
   exact λds=>this ds 0
  rw[hn,q_];have:=Jm ne;unfold bordersL at this k1;simp[this];exact k1 _ ⟨_,rfl⟩
theorem uX{g:Nat}{wr x:Int×Int}:x∈bdL g pr wr↔(pr.1 < wr.1/\x=((g:Int),wr.1 - 1))\/(wr.2 < pr.2/\x=((g:Int),wr.2)):=by
 unfold bdL;rw[P_];constructor
 ·rintro(h | h)
  ·split at h
   ·exact .inl ⟨‹_›,by simpa using h⟩
   ·simp at h
  ·split at h
   ·exact .inr ⟨‹_›,by simpa using h⟩
   ·simp at h
 ·rintro(⟨h,rfl⟩ | ⟨h,rfl⟩)
  ·exact .inl (by rw[if_pos h];simp)
  ·exact .inr (by rw[if_pos h];simp)
theorem A0{x:Int×Int}:x∈bordersL ws p↔∃g,g < p.length/\∃w∈ws,x∈bdL g (p.getD g (0,0)) (w.getD g (0,0)):=by
 unfold bordersL bdsL;simp only[SB,SY]
theorem Aa{g:Nat}(h:g < p.length):p[g]?=some (p.getD g (0,0)):=by
 rw[h_,g_ h];rfl
theorem Kr{w:List (Int×Int)}(h:w.length=p.length)(ok:okB (mixB w p)=true){g:Nat}(hg:g < p.length):max (w.getD g (0,0)).1 (p.getD g (0,0)).1<=min (w.getD g (0,0)).2 (p.getD g (0,0)).2:=by
 have e:(mixB w p)[g]?=some (max (w.getD g (0,0)).1 (p.getD g (0,0)).1,min (w.getD g (0,0)).2 (p.getD g (0,0)).2):=by
  unfold mixB;rw[C_,TX (z:=(w.getD g (0,0),p.getD g (0,0))) |>.mpr ⟨Aa (by omega),Aa hg⟩];rfl
 have:=n_.mp ok _ (RZ e);simpa using this
theorem DJ{w:List (Int×Int)}(h:w.length=p.length)(k:∀g,g < p.length->(w.getD g (0,0)).1<=(p.getD g (0,0)).1/\(p.getD g (0,0)).2<=(w.getD g (0,0)).2):covB w p=true:=by
 unfold covB;rw[n_];intro q hq;obtain⟨i,hi,rfl⟩:=TL hq;rw[XY] at hi;have:=k i (by omega);rw[List.getElem_zip];rw[h_,h_,g_ (by omega),g_ (by omega)] at this;simpa using this
theorem LM(len:∀w∈ws,w.length=p.length)(ne:ws≠[])(qU:∀w∈ws,okB (mixB w p)=true)(no:∀w∈ws,covB w p=false):
  bordersL ws p≠[]/\∃(f:Nat) (a:Int),minP (bordersL ws p)=((f:Int),a)/\f < p.length/\(p.getD f (0,0)).1<=a/\a < (p.getD f (0,0)).2/\∀w∈ws,covB (w.take f) (p.take f)=true:=by
 have one:bordersL ws p≠[]:=by
  obtain⟨w,hw⟩:=List.exists_mem_of_ne_nil ws ne;intro qV
  have c:=DJ (len w hw) λg hg=>by
   have h0:=λx hx=>(A0 (ws:=ws) (p:=p) (x:=x)).mpr ⟨g,hg,w,hw,hx⟩
   rw[qV] at h0;refine⟨not_lt.mp λlt=>?_,not_lt.mp λlt=>?_⟩
   ·exact absurd (h0 _ (uX.mpr (.inl ⟨lt,rfl⟩))) UZ
   ·exact absurd (h0 _ (uX.mpr (.inr ⟨lt,rfl⟩))) UZ
  rw[no w hw] at c;cases c
 refine⟨one,?_⟩;obtain⟨m1,m2⟩:=PQ one;generalize minP (bordersL ws p)=m at m1 m2;obtain⟨f,hf,w,hw,hm⟩:=A0.mp m1;have mx:=Kr (len w hw) (qU w hw) hf;refine⟨f,m.2,?_,hf,?_⟩
 ·rcases uX.mp hm with⟨_,rfl⟩ | ⟨_,rfl⟩<;>rfl
 ·have su:m.1=f:=by rcases uX.mp hm with⟨_,rfl⟩ | ⟨_,rfl⟩<;>rfl
  refine⟨?_,?_,λv hv=>?_⟩
  ·rcases uX.mp hm with⟨h,rfl⟩ | ⟨h,rfl⟩<;>(dsimp only;omega)
  ·rcases uX.mp hm with⟨h,rfl⟩ | ⟨h,rfl⟩<;>(dsimp only;omega)
  ·refine DJ (by simp[len v hv]) λg hg=>?_
   rw[Um] at hg
   have e:∀u:List (Int×Int),(u.take f).getD g (0,0)=u.getD g (0,0):=λu=>by
    rw[h_,h_,VE (by omega)]
   rw[e,e]
   have dB:∀x,x∈bdL g (p.getD g (0,0)) (v.getD g (0,0))->False:=λx hx=>by
    have:=m2 x (A0.mpr ⟨g,by omega,v,hv,hx⟩);have x1:x.1=g:=by rcases uX.mp hx with⟨_,rfl⟩ | ⟨_,rfl⟩<;>rfl
    have:¬ltP x m=true:=by rw[this];simp
    rw[EC] at this;omega
   exact⟨not_lt.mp λlt=>dB _ (uX.mpr (.inl ⟨lt,rfl⟩)),not_lt.mp λlt=>dB _ (uX.mpr (.inr ⟨lt,rfl⟩))⟩
inductive Tr where
 | byK (k:Nat)
 | cut (f:Nat) (a:Int) (l r:Tr)
noncomputable def trD:Tr->D
 | .byK k=>.tup [.str "by", .int k]
 | .cut f a l r=>.tup [.str "cut", .int f,.int a,trD l,trD r]
noncomputable def Tr.deep:Tr->Nat
 | .byK _=>0
 | .cut _ _ l r=>max l.deep r.deep+1
def GoodT(ws:List (List (Int×Int))):Tr->List (Int×Int)->Prop
 | .byK k,p=>∃w,ws[k]?=some w/\covB w p=true
 | .cut f a l r,p=>f < p.length/\(p.getD f (0,0)).1<=a/\a < (p.getD f (0,0)).2/\GoodT ws l (hv1 p f a)/\GoodT ws r (hv2 p f a)
def RightD(ws:List (List (Int×Int)))(p:List (Int×Int))(m:Nat)(d:D):Prop:=(∃l,firstL ws p=some l/\d=.tup [.str "out", letD l])\/∃t,firstL ws p=none/\GoodT ws t p/\t.deep<=m/\d=.tup [.str "in", trD t]
noncomputable def sizeP(p:List (Int×Int)):Nat:=(p.map λq=>(q.2 - q.1).toNat).sum
theorem Mf{f:Nat}{a:Int}(hf:f < p.length)(h1:(p.getD f (0,0)).1<=a)(h2:a < (p.getD f (0,0)).2):sizeP (hv1 p f a) < sizeP p/\sizeP (hv2 p f a) < sizeP p:=by
 have e:=yW hf;generalize p.getD f (0,0)=pr at *
 have s:sizeP p=sizeP (p.take f)+((pr.2 - pr.1).toNat+sizeP (p.drop (f+1))):=by
  conv=>lhs;rw[e]
  simp[sizeP]
 unfold hv1 hv2;rw[s]
 have e1:p.getD f (0,0)=pr:=by
  conv=>lhs;rw[e]
  rw[h_,SJ (by simp;omega)];simp[Nat.min_eq_left (UW hf)]
 rw[e1];simp[sizeP];omega
theorem Wf.cut{f:Nat}{a:Int}(hp:Wf n p)(hf:f < p.length)(h1:(p.getD f (0,0)).1<=a)(h2:a < (p.getD f (0,0)).2):Wf n (hv1 p f a)/\Wf n (hv2 p f a):=by
 have pr:PairOk (p.getD f (0,0)):=hp.all _ (RZ (Aa hf));have:=pr.lo;have:=pr.hi;have:=hp.len;constructor
 ·refine⟨by simp[hv1];omega,λq hq=>?_⟩;unfold hv1 at hq;rw[P_,P_,s_] at hq
  rcases hq with(h | rfl) | h
  ·exact hp.all q (SQ h)
  ·exact⟨pr.lo,h1,by dsimp only;omega⟩
  ·exact hp.all q (Ue h)
 ·refine⟨by simp[hv2];omega,λq hq=>?_⟩;unfold hv2 at hq;rw[P_,P_,s_] at hq
  rcases hq with(h | rfl) | h
  ·exact hp.all q (SQ h)
  ·exact⟨by dsimp only;omega,by dsimp only;omega,pr.hi⟩
  ·exact hp.all q (Ue h)
theorem Wf.ok(hp:Wf n p):okB p=true:=n_.mpr λq hq=>by simpa using(hp.all q hq).le
theorem HG{f:Nat}{a:Int}(hf:f < p.length)(h1:(p.getD f (0,0)).1<=a)(h2:a < (p.getD f (0,0)).2):∀l,l∈lettersR (hv1 p f a)\/l∈lettersR (hv2 p f a)->l∈lettersR p:=by
 intro l hl;have cut:=Fv (q:=p.drop (f+1)) h1 (Xa h2);rw[show lettersR p=lettersR (p.take f++p.getD f (0,0)::p.drop (f+1)) by rw[←yW hf],xt,SB];rw[show p.getD f (0,0)=((p.getD f (0,0)).1,(p.getD f (0,0)).2) from rfl,cut]
 rcases hl with hl | hl
 ·unfold hv1 at hl;rw[Tp,Tz,xt,SB] at hl;obtain⟨x,hx,hl⟩:=hl;obtain⟨y,hy,rfl⟩:=u_.mp hl;exact⟨x,hx,u_.mpr ⟨y,Sk _ hy,rfl⟩⟩
 ·unfold hv2 at hl;rw[Tp,Tz,xt,SB] at hl;obtain⟨x,hx,hl⟩:=hl;obtain⟨y,hy,rfl⟩:=u_.mp hl;exact⟨x,hx,u_.mpr ⟨y,M_ _ hy,rfl⟩⟩
noncomputable def wAt(ws:List (List (Int×Int)))(k:Nat):List (Int×Int):=ws.getD k []
theorem xN(h:k < ws.length):wAt ws k=ws[k]:=by
 unfold wAt;rw[h_,g_ h];rfl
theorem Az(h:k < ws.length):atI (ws.map wishD) (k:Int)=some (wishD (wAt ws k)):=by
 rw[DL.uV,xN h];simp[h]
theorem El(h:k < ws.length):wAt ws k∈ws:=by
 rw[xN h];exact Sf _
theorem CO{n:Nat}{ws:List (List (Int×Int))}(hw:∀w∈ws,Wf n w)(hl:ws.length<=100)(hn:n<=100):∀(m:Nat) (ks:List Nat) (p:List (Int×Int)),Wf n p->sizeP p < m->(∀k∈ks,k < ws.length)->ks.length<=100 →
  (∀k,k < ws.length->k∉ks->∀l∈lettersR p,hasB (wAt ws k) l=false)->∃d,cvF (vA m) [.lst (ws.map wishD),.lst (ks.map λk:Nat=>.int k),wishD p]=some d/\RightD ws p (sizeP p) d
 | 0,ks,p,hp,hs,_,_,_=>absurd hs (Wu _)
 | m+1,ks,p,hp,hs,hk,hkl,dB=>by
  have ih:=CO hw hl hn m;have cY:∀k,k < ws.length->(wAt ws k).length=p.length:=λk h=>by rw[(hw _ (El h)).len,hp.len]
  have oE:p.length<=100:=by rw[hp.len];exact hn
  have bq:wpF (vA (m+1)) [.val (.lst (ws.map wishD)),.val (.lst (ks.map λk:Nat=>.int k)),.val (wishD p)] λr _=>∃d,r=.val d/\RightD ws p (sizeP p) d:=by
   rw[vA];refine uP rfl λKE hE _=>?_
   rw[yR];refine sK ?_;rintro K hK -;simp;refine uA ks (λk:Nat=>.int k) (λk=>okB (mixB (wAt ws k) p)) (λk:Nat=>.int k) ?_;simp;refine⟨by omega,λk iM=>?_,hK _ ?_⟩
   ·have e1:=Az (hk k iM);have e2:=OE (cY k (hk k iM)) (by rw[cY k (hk k iM)];omega);simp[e1,e2];split<;>simp[isN,wishD, *]
   ·clear hK;obtain⟨aV,eA⟩:∃aV,aV=ks.filter λk=>okB (mixB (wAt ws k) p):=⟨_,rfl⟩
    rw[←eA];have cw:∀k,k∈aV↔k∈ks/\okB (mixB (wAt ws k) p)=true:=λk=>by rw[eA,H_]
    have fA:aV.length<=100:=by rw[eA];exact y_ (TV _ _) hkl
    have fM:∀k,k < ws.length->k∉aV->∀l∈lettersR p,hasB (wAt ws k) l=false:=λk h1 h2=>by
     by_cases h3:k∈ks
     ·refine Pb (cY k h1) ?_;rw[cw] at h2;simpa[h3] using h2
     ·exact dB k h1 h3
    clear eA;refine sK ?_;rintro K hK hR;simp;split
    ·-- nothing is aV
     rename_i h0;have h0:aV=[]:=by simpa using h0
     simp[wishD];refine uA p pairD (λ_=>true) (λq=>.int q.1) ?_;simp;refine⟨by omega,hR _ _ (hE _ _ ⟨_,rfl,_,rfl,.inl ⟨p.map (·.1),?_,?_⟩⟩)⟩
     ·obtain⟨t,e⟩:=FU hp.ok;unfold firstL;rw[e,List.find?_cons_of_pos];unfold leftB;rw[n_];intro w jQ;obtain⟨k,h1,rfl⟩:=TL jQ;have:=fM k h1 (by rw[h0];simp) (p.map (·.1)) (by rw[e];exact m_);rw[xN h1] at this;simpa using this
     ·simp[letD,X9]
    ·rename_i h0;refine hK _ ?_;have h0:aV≠[]:=by simpa using h0
     refine sK ?_;rintro K hK hR;simp;refine ud (J:=λi Γ=>∃x4,(∀k∈aV.take i,covB (wAt ws k) p=false)/\Γ=[some (.val (.lst (ws.map wishD))),some (.val (.lst (ks.map λk:Nat=>.int k))),some (.val (wishD p)),some (.val (.lst (aV.map λk:Nat=>.int k))),x4,none,none,none,none]) ⟨none,by simp,rfl⟩ ?_ ?_
     ·rintro i d Γ hd ⟨x4,hc,rfl⟩ KL aI - - iK;rw[C_,Q_] at hd;obtain⟨k,oF,rfl⟩:=hd;have jR:=(cw k).mp (RZ oF);have dU:=hk k jR.1;have e1:=Az dU;have e2:=G0 (cY k dU) (by rw[cY k dU];omega);have fZ:aV.take (i+1)=aV.take i++[k]:=by rw[Uq,oF];rfl
      simp[e1,e2];split
      ·rename_i dX;have dX:covB (wAt ws k) p=true:=by simpa using dX
       refine iK _ _ (hR _ _ (hE _ _ ⟨_,rfl,_,rfl,.inr ⟨.byK k,?_,⟨wAt ws k,?_,dX⟩,Sh _,?_⟩⟩))
       ·unfold firstL;rw[VL];intro l qW;unfold leftB;intro all;have:=n_.mp all _ (El dU);rw[EN (cY k dU) dX l qW] at this;cases this
       ·rw[xN dU,g_ dU]
       ·rw[trD]
      ·rename_i dX;refine aI _ ⟨_,λk' bO=>?_,rfl⟩;rw[fZ] at bO
       rcases P_.mp bO with h | h
       ·exact hc k' h
       ·rw[s_.mp h];simpa using dX
     ·rintro Γ ⟨x4,hc,rfl⟩;refine hK _ ?_;rw[q_,Tj] at hc;obtain⟨ge,eV⟩:∃ge,ge=aV.map λk=>wAt ws k:=⟨_,rfl⟩
      have jS:∀w∈ge,∃k,k∈aV/\k < ws.length/\w=wAt ws k:=λw h=>by
       rw[eV,u_] at h;obtain⟨k,h1,rfl⟩:=h;exact⟨k,h1,hk k ((cw k).mp h1).1,rfl⟩
      obtain⟨bne,f,a,em,hf,h1,h2,qX⟩:=LM (ws:=ge) (p:=p) (λw h=>by obtain⟨k,_,bO,rfl⟩:=jS w h;exact cY k bO) (by rw[eV];simpa using h0)
       (λw h=>by obtain⟨k,bO,_,rfl⟩:=jS w h;exact((cw k).mp bO).2) (λw h=>by obtain⟨k,bO,_,rfl⟩:=jS w h;exact hc k bO)
      have bo:=PK (ws:=ge) (p:=p) (λw h=>by obtain⟨k,_,bO,rfl⟩:=jS w h;exact cY k bO) oE (by rw[eV];simpa using fA) bne;rw[em] at bo;have ha:=NZ (p:=p) (a:=a) hf (by omega);obtain⟨w1,w2⟩:=hp.cut hf h1 h2;obtain⟨z1,z2⟩:=Mf hf h1 h2;have sub:=HG hf h1 h2
      have first:firstL ws p=(firstL ws (hv1 p f a)).or (firstL ws (hv2 p f a)):=Py hp.ok hf (λw h=>by rw[(hw w h).len,hp.len]) h1 (Xa h2) λw h=>by
       obtain⟨k,dU,rfl⟩:=TL h;have eg:wAt ws k=ws[k]:=xN dU;by_cases jR:k∈aV
       ·exact .inr (qX _ (by rw[eV,u_];exact⟨k,jR,eg⟩))
       ·have:=fM k dU jR;rw[eg] at this;exact .inl this
      obtain⟨d1,e1,r1⟩:=ih aV (hv1 p f a) w1 (by omega) (λk h=>hk k ((cw k).mp h).1) fA λk h1 h2 l hl=>fM k h1 h2 l (sub l (.inl hl))
      obtain⟨d2,e2,r2⟩:=ih aV (hv2 p f a) w2 (by omega) (λk h=>hk k ((cw k).mp h).1) fA λk h1 h2 l hl=>fM k h1 h2 l (sub l (.inr hl))
      refine sK ?_;rintro K hK -;simp;refine uA aV (λk:Nat=>.int k) (λ_=>true) (λk:Nat=>wishD (wAt ws k)) ?_;simp;refine⟨by omega,λk iM=>?_,?_⟩
      ·have e1:=Az (hk k ((cw k).mp iM).1);simp[e1]
      ·have ew:(aV.map λk=>wishD (wAt ws k))=ge.map wishD:=by rw[eV];simp
       rw[ew];simp[bo];refine hK _ ?_;refine sK ?_;rintro K hK -;simp[ha];refine hK _ ?_;refine sK ?_;rintro K hK -;simp[e1];refine hK _ ?_
       rcases r1 with⟨l1,f1,rfl⟩ | ⟨t1,f1,g1,sv,rfl⟩
       ·refine sK ?_;rintro K hK fz;simp;exact fz _ _ (hE _ _ ⟨_,rfl,_,rfl,.inl ⟨l1,by rw[first,f1];rfl,rfl⟩⟩)
       ·refine sK ?_;rintro K hK -;simp;refine hK _ ?_;refine sK ?_;rintro K hK -;simp[e2];refine hK _ ?_
        rcases r2 with⟨l2,f2,rfl⟩ | ⟨t2,f2,g2,sw,rfl⟩
        ·refine sK ?_;rintro K hK fz;simp;exact fz _ _ (hE _ _ ⟨_,rfl,_,rfl,.inl ⟨l2,by rw[first,f1,f2];rfl,rfl⟩⟩)
        ·refine sK ?_;rintro K hK -;simp;refine hK _ ?_;simp;refine hE _ _ ⟨_,rfl,_,rfl,.inr ⟨.cut f a t1 t2,by rw[first,f1,f2];rfl,⟨hf,h1,h2,g1,g2⟩,?_,by rw[trD]⟩⟩;rw[Tr.deep];omega
  obtain⟨r,bi,e,d,rfl,hR⟩:=bq;exact⟨d,by unfold cvF;simp only[map];rw[e],hR⟩
theorem Nf(hw:∀w∈ws,Wf n w)(hl:ws.length<=100)(hn:n<=3)(hp:Wf n p):∃d,cvF xz [.lst (ws.map wishD),wishD p]=some d/\RightD ws p 27 d:=by
 have sz:sizeP p<=27:=by
  unfold sizeP;refine y_ (HD (m:=9) λx hx=>?_) ?_
  ·obtain⟨q,hq,rfl⟩:=u_.mp hx;have:=(hp.all q hq).lo;have:=(hp.all q hq).hi;omega
  ·rw[q_,hp.len];omega
 obtain⟨d,e,r⟩:=CO hw hl (by omega) 40 (Sx ws.length) p hp (by omega) (λk h=>SY.mp h) (by simpa using hl) λk h1 h2=>absurd (SY.mpr h1) h2
 refine⟨d,?_,?_⟩
 ·refine ug rfl λKE k1 _=>?_
  rw[AS];refine sK ?_;rintro K hK -
  have kin:cvF tZ [.lst (wishD p::ws.map wishD)]=some .non:=vX (n:=n) λd hd=>by
   rcases B_.mp hd with rfl | h
   ·exact⟨p.map pairD,rfl,by simp[hp.len]⟩
   ·obtain⟨w,jQ,rfl⟩:=u_.mp h;exact⟨w.map pairD,rfl,by simp[(hw w jQ).len]⟩
  simp[kin];refine⟨by omega,hK _ ?_⟩;have er:rngD 0 ws.length=(Sx ws.length).map λk:Nat=>D.int k:=by simp[rngD]
  simp[er,e];exact⟨by omega,k1 _ ⟨_,rfl⟩⟩
 ·rcases r with r | ⟨t,r1,r2,r3,r4⟩
  ·exact .inl r
  ·exact .inr ⟨t,r1,r2,by omega,r4⟩
theorem NC:dep (.lst (ws.map wishD))<=3:=by
 rw[dep]
 have:depA (ws.map wishD)<=2:=uw λd hd=>by
  obtain⟨w,_,rfl⟩:=u_.mp hd;exact vz
 omega
theorem Eh:∀(a b:List (Int×Int)),deqA (a.map pairD) (b.map pairD)=decide (a=b)
 | [],[]=>by simp[deqA]
 | [],q::b=>by simp[deqA]
 | p::a,[]=>by simp[deqA]
 | p::a,q::b=>by
  rw[G_,G_,deqA,Eh a b];simp[pairD,deq,deqA,Prod.ext_iff];by_cases h1:p.1=q.1<;>by_cases h2:p.2=q.2<;>by_cases h3:a=b<;>simp[h1,h2,h3]
theorem yS(a b:List (Int×Int)):deq (wishD a) (wishD b)=decide (a=b):=by
 unfold wishD;rw[deq];exact Eh a b
theorem Hd{a b:List (Int×Int)}(h:wishD a=wishD b):a=b:=by
 have:=yS a b;rw[h,DL.vG] at this;simpa using this.symm
theorem Hr:∀(a b:List (Int×Int)),cmA (a.map pairD) (b.map pairD)=true
 | [],[]=>by simp[cmA]
 | [],q::b=>by simp[cmA]
 | p::a,[]=>by simp[cmA]
 | p::a,q::b=>by
  rw[G_,G_,cmA,Hr a b];simp[pairD,cmB,cmA]
theorem EA(a b:List (Int×Int)):cmB (wishD a) (wishD b)=true:=by
 unfold wishD;rw[cmB];exact Hr a b
theorem OI(ws:List (List (Int×Int))):cmAll (ws.map wishD)=true:=by
 unfold cmAll;rw[n_];intro a ha;rw[n_];intro b hb;obtain⟨x,_,rfl⟩:=u_.mp ha;obtain⟨y,_,rfl⟩:=u_.mp hb;exact EA x y
theorem Gy:∀a:List (Int×Int),kyA (a.map pairD)=true
 | []=>by simp[kyA]
 | p::a=>by
  rw[G_,kyA,Gy a];simp[pairD,kyB,kyA]
theorem Ag{f:D->Bool}(h:∀w∈ws,f (wishD w)=true):(ws.map wishD).all f=true:=by
 rw[n_];intro d hd;obtain⟨w,hw,rfl⟩:=u_.mp hd;exact h w hw
theorem M'{w:List (Int×Int)}(hw:Wf n w)(h:1<=n):fstT (wishD w)=true:=by
 have:=hw.len;cases w with
 | nil=>simp at this;omega
 | cons p w=>rfl
theorem HK(ws:List (List (Int×Int))):depA (ws.map wishD)<=2:=uw λd hd=>by
 obtain⟨w,_,rfl⟩:=u_.mp hd;exact vz
theorem pull{ws:List (List (Int×Int))}:∀(l:List D),(∀d∈l,∃w∈ws,d=wishD w)->∃us:List (List (Int×Int)),l=us.map wishD/\∀u∈us,u∈ws
 | [],_=>⟨[],rfl,λu hu=>by cases hu⟩
 | d::l,h=>by
  obtain⟨us,e,m⟩:=pull l λd hd=>h d (j_ _ hd)
  obtain⟨w,hw,rfl⟩:=h d m_;refine⟨w::us,by rw[e];rfl,λu hu=>?_⟩
  rcases B_.mp hu with rfl | hu
  ·exact hw
  ·exact m u hu
theorem At{us:List (List (Int×Int))}{w:List (Int×Int)}:wishD w∈us.map wishD↔w∈us:=by
 rw[u_];constructor
 ·rintro⟨u,hu,e⟩;rw[←Hd e];exact hu
 ·exact λh=>⟨w,h,rfl⟩
theorem Om{us:List (List (Int×Int))}(h:(us.map wishD).Nodup):us.Nodup:=by
 induction us with
 | nil=>exact WE
 | cons u us ih =>
  rw[G_,SL] at h;rw[SL];exact⟨λm=>h.1 (At.mpr m),ih h.2⟩
theorem Du(ws:List (List (Int×Int))):∃us:List (List (Int×Int)),sortD (dd (ws.map wishD))=us.map wishD/\(∀u,u∈us↔u∈ws)/\us.Nodup/\us.length<=ws.length:=by
 have p:=wD (dd (ws.map wishD))
 obtain⟨us,e,m⟩:=pull (ws:=ws) (sortD (dd (ws.map wishD))) λd hd=>by
  obtain⟨w,hw,rfl⟩:=u_.mp (vE (p.mem_iff.mp hd));exact⟨w,hw,rfl⟩
 refine⟨us,e,λu=>⟨m u,λhu=>?_⟩,Om ?_,?_⟩
 ·have h1:=LD (ws.map wishD) (wishD u) (At.mpr hu);obtain⟨d,hd,q⟩:=Sg.mp h1;obtain⟨w,hw,rfl⟩:=u_.mp (vE hd);rw[yS] at q;simp at q;subst q;have:=p.mem_iff.mpr hd;rw[e] at this;exact At.mp this
 ·rw[←e];exact p.nodup_iff.mpr (Hi _)
 ·have h1:=p.length_eq;have h2:=CK (ws.map wishD);rw[e] at h1;simp at h1 h2;omega
theorem Oq(aZ:∀w∈ws,Wf n w)(h:(dd (ws.map wishD)).length<=18):SetOk (ws.map wishD):=by
 refine⟨OI ws,Ag λw _=>?_,Ag λw _=>rfl,y_ (HK ws) (by omega),y_ h (by decide)⟩;unfold wishD;rw[kyB];exact Gy w
theorem Kt(aZ:∀w∈ws,Wf n w)(hn:1<=n)(h:(dd (ws.map wishD)).length<=18):setF [.lst (ws.map wishD)]=some (sortD (dd (ws.map wishD))):=
 N5 (Oq aZ h) h (.inr (Ag λw hw=>M' (aZ w hw) hn))
theorem Pz{bs:List (List (Int×Int))}(h1:(as.map wishD).Pairwise λa b=>leD a b=true)(h2:(bs.map wishD).Pairwise λa b=>leD a b=true)(n1:as.Nodup)(n2:bs.Nodup)(m:∀w,w∈as↔w∈bs):as=bs:=by
 have len:bs.length<=as.length:=by
  have:=yC bs as n2 (λw hw=>(m w).mpr hw);exact this
 have p:as.Perm bs:=A9 as bs n1 (λw hw=>(m w).mp hw) len
 have e:as.map wishD=bs.map wishD:=zf _ _ (p.map _) h1 h2 λa ha b hb l1 l2=>by
  obtain⟨x,_,rfl⟩:=u_.mp ha;obtain⟨y,_,rfl⟩:=u_.mp hb;have c:=EA x y;refine xg _ _ c ?_;rw[wq _ _ c];unfold leD at l1 l2;rw[l1,l2];rfl
 have:∀(as bs:List (List (Int×Int))),as.map wishD=bs.map wishD->as=bs:=by
  intro as
  induction as with
  | nil=>intro bs e;cases bs with
   | nil=>rfl
   | cons b bs=>simp at e
  | cons a as ih =>
   intro bs e;cases bs with
   | nil=>simp at e
   | cons b bs =>
    rw[G_,G_] at e;injection e with e1 e2
    rw[Hd e1,ih bs e2]
 exact this as bs e
noncomputable def undB(us:List (List (Int×Int)))(w:List (Int×Int)):Bool:=us.any λone=>!decide (one=w)&&covB one w
theorem MM{us:List (List (Int×Int))}{w:List (Int×Int)}(iN:∀u∈us,Wf n u)(hw:Wf n w)(hn:n<=3)(hl:us.length<=1000000):cvF zh [.lst (us.map wishD),wishD w]=some (.bl (undB us w)):=by
 refine ug rfl λK k1 _=>?_
 rw[Bt];simp;refine uA us wishD (λ_=>true) (λone=>.bl (!decide (one=w)&&covB one w)) ?_;simp[yS];refine⟨hl,λone ho=>⟨⟨by have:=vz (w:=one);omega,by have:=vz (w:=w);omega⟩,?_⟩,?_⟩
 ·have:=G0 (a:=one) (b:=w) (by rw[(iN one ho).len,hw.len]) (by rw[(iN one ho).len];omega);simp[this];split<;>simp_all
 ·rw[Px];simp;exact k1 _ ⟨_,rfl⟩
theorem IX{us:List (List (Int×Int))}(aZ:∀u∈ws,Wf n u)(h1:1<=n)(hn:n<=3)(hl:ws.length<=1000000)(l7:(dd (ws.map wishD)).length<=18)(e:sortD (dd (ws.map wishD))=us.map wishD)(m:∀u,u∈us↔u∈ws)(ul:us.length<=ws.length):
  coF wB [.lst (ws.map wishD)]=some ((us.filter λw=>!undB us w).map wishD):=by
 refine vc rfl λKE k1=>?_
 rw[A5];refine sK ?_;rintro K hK -
 have kin:cvF tZ [.lst (ws.map wishD)]=some .non:=vX (n:=n) λd hd=>by
  obtain⟨w,hw,rfl⟩:=u_.mp hd;exact⟨w.map pairD,rfl,by rw[q_,(aZ w hw).len]⟩
 simp[kin];refine hK _ ?_;refine sK ?_;rintro K hK -;simp[Kt aZ h1 l7,e];refine hK _ ?_;simp;refine uA us wishD (λw=>!undB us w) wishD ?_;simp;refine⟨by omega,λw hw=>?_,k1 _ ⟨_,rfl⟩⟩;have iN:∀u∈us,Wf n u:=λu hu=>aZ u ((m u).mp hu)
 simp[MM iN (iN w hw) hn (by omega)]
theorem AV{us:List (List (Int×Int))}(m:∀u,u∈us↔u∈ws)(w:List (Int×Int)):undB us w=undB ws w:=by
 unfold undB;rw[Ts,Sg,Sg];exact⟨λ⟨u,h,q⟩=>⟨u,(m u).mp h,q⟩,λ⟨u,h,q⟩=>⟨u,(m u).mpr h,q⟩⟩
theorem zT{p q:Int×Int}{a b:List (Int×Int)}:covB (p::a) (q::b)=true↔(p.1<=q.1/\q.2<=p.2)/\covB a b=true:=by
 unfold covB;rw[Tv,S0];simp
theorem Ef:∀a:List (Int×Int),covB a a=true
 | []=>rfl
 | p::a=>zT.mpr ⟨⟨Int.le_refl _,Int.le_refl _⟩,Ef a⟩
theorem Es:∀{a b c:List (Int×Int)},a.length=b.length->b.length=c.length->covB a b=true->covB b c=true->covB a c=true
 | [],[],[],_,_,_,_=>rfl
 | p::a,q::b,r::c,h1,h2,x,y=>by
  rw[zT] at x y ⊢;exact⟨⟨Xk x.1.1 y.1.1,Xk y.1.2 x.1.2⟩,Es (by simpa using h1) (by simpa using h2) x.2 y.2⟩
noncomputable def wd(w:List (Int×Int)):Nat:=(w.map λp=>(p.2 - p.1).toNat).sum
theorem Dy:∀{a b:List (Int×Int)},a.length=b.length->(∀p∈b,p.1<=p.2)->covB a b=true->wd b<=wd a/\(wd b=wd a->a=b)
 | [],[],_,_,_=>⟨w_ _,λ_=>rfl⟩
 | p::a,q::b,h,ok,x=>by
  rw[zT] at x;obtain⟨h1,h2⟩:=Dy (by simpa using h) (λp hp=>ok p (j_ _ hp)) x.2;have:=ok q m_;unfold wd at *;simp only[G_,sum_cons];refine⟨by omega,λe=>?_⟩;rw[h2 (by omega)];have e1:p.1=q.1:=by omega
  have e2:p.2=q.2:=by omega
  rw[VP e1 e2]
theorem O':∀{n:Nat}{w:List (Int×Int)},Wf n w->wd w<=9*n
 | n,w,h=>by
  have:=h.len
  have bq:∀w:List (Int×Int),(∀p∈w,PairOk p)->wd w<=9*w.length:=by
   intro w
   induction w with
   | nil=>exact λ_=>w_ _
   | cons p w ih =>
    intro h;have h1:=ih λq hq=>h q (j_ _ hq)
    have h2:=h p m_;have:=h2.lo;have:=h2.hi;unfold wd at *;simp only[G_,sum_cons,R8];omega
  have:=bq w h.all;omega
theorem Wf.le2{w:List (Int×Int)}(h:Wf n w):∀p∈w,p.1<=p.2:=λp hp=>(h.all p hp).le
theorem Al{w:List (Int×Int)}:undB ws w=true↔∃u∈ws,u≠w/\covB u w=true:=by
 unfold undB;rw[Sg];simp
theorem GR{n:Nat}{ws:List (List (Int×Int))}(aZ:∀u∈ws,Wf n u):∀(k:Nat) (w:List (Int×Int)),w∈ws->9*n - wd w<=k->∃u∈ws,undB ws u=false/\covB u w=true
 | k,w,hw,hk=>by
  by_cases c:undB ws w=false
  ·exact⟨w,hw,c,Ef w⟩
  ·have c:undB ws w=true:=by simpa using c
   obtain⟨u,hu,ne,cv⟩:=Al.mp c;have lu:=(aZ u hu).len;have lw:=(aZ w hw).len;obtain⟨d1,d2⟩:=Dy (by rw[lu,lw]) (aZ w hw).le2 cv
   have lt:wd w < wd u:=by
    rcases UC (wd w) (wd u) with z | z
    ·exact z
    ·exact absurd (d2 (Nat.le_antisymm d1 z)) ne
   have:=O' (aZ u hu)
   match k with
   | 0=>omega
   | k+1 =>
    obtain⟨m,hm,h1,h2⟩:=GR aZ k u hu (by omega);have lm:=(aZ m hm).len;exact⟨m,hm,h1,Es (by rw[lm,lu]) (by rw[lu,lw]) h2 cv⟩
structure IsRoof(ws R:List (List (Int×Int))):Prop where
 up:(R.map wishD).Pairwise λa b=>leD a b=true
 nd:R.Nodup
 mem:∀w,w∈R↔w∈ws/\undB ws w=false
theorem IsRoof.alone{R S:List (List (Int×Int))}(a:IsRoof ws R)(b:IsRoof ws S):R=S:=Pz a.up b.up a.nd b.nd λw=>(a.mem w).trans (b.mem w).symm
theorem IsRoof.congr{vs R:List (List (Int×Int))}(a:IsRoof ws R)(m:∀u,u∈vs↔u∈ws):IsRoof vs R:=⟨a.up,a.nd,λw=>by rw[a.mem,m,AV m]⟩
theorem BR(ws:List (List (Int×Int))):∃R,IsRoof ws R/\R.length<=ws.length:=by
 obtain⟨us,eu,mu,nu,ul⟩:=Du ws;have iO:=wJ (dd (ws.map wishD));rw[eu] at iO;refine⟨us.filter λw=>!undB us w,⟨iO.sublist (Vs.map _),nu.filter _,λw=>?_⟩,y_ (TV _ _) ul⟩;rw[H_,mu,AV mu];simp
theorem GZ{R:List (List (Int×Int))}(aZ:∀u∈ws,Wf n u)(h1:1<=n)(hn:n<=3)(hl:ws.length<=18)(a:IsRoof ws R):coF wB [.lst (ws.map wishD)]=some (R.map wishD):=by
 obtain⟨us,eu,mu,nu,ul⟩:=Du ws;have iO:=wJ (dd (ws.map wishD));rw[eu] at iO
 have l7:(dd (ws.map wishD)).length<=18:=by
  have:=CK (ws.map wishD);simp at this;omega
 rw[IX aZ h1 hn (by omega) l7 eu mu ul]
 have:IsRoof ws (us.filter λw=>!undB us w):=⟨iO.sublist (Vs.map _),nu.filter _,λw=>by
  rw[H_,mu,AV mu]
  simp⟩
 rw[this.alone a]
theorem IsRoof.over{R:List (List (Int×Int))}(a:IsRoof ws R)(aZ:∀u∈ws,Wf n u){w:List (Int×Int)}(hw:w∈ws):∃u∈R,covB u w=true:=by
 obtain⟨u,h1,h2,h3⟩:=GR aZ _ w hw (w_ _);exact⟨u,(a.mem u).mpr ⟨h1,h2⟩,h3⟩
theorem IsRoof.sub{R:List (List (Int×Int))}(a:IsRoof ws R){w:List (Int×Int)}(h:w∈R):w∈ws:=((a.mem w).mp h).1
theorem DE:∀{a b:List (Int×Int)}{l:List Int},a.length=b.length->covB a b=true->hasB b l=true->hasB a l=true
 | [],[],l,_,_,h=>by simpa[hasB] using h
 | p::a,q::b,[],_,_,h=>by simp[hasB]
 | p::a,q::b,n::l,e,c,h=>by
  rw[zT] at c;unfold hasB at h ⊢;rw[Tv,S0,J_] at h ⊢;have h1:=DE (l:=l) (by simpa using e) c.2 (by unfold hasB;exact h.2);unfold hasB at h1;refine⟨?_,h1⟩;have h2:=h.1;simp at h2 ⊢;omega
theorem GC:leftB ws l=true↔∀w∈ws,hasB w l=false:=by
 unfold leftB;rw[n_];simp
def AllIn(ws:List (List (Int×Int)))(p:List (Int×Int)):Prop:=∀l∈lettersR p,∃w∈ws,hasB w l=true
theorem LO:firstL ws p=none↔AllIn ws p:=by
 unfold firstL AllIn;rw[VL];constructor
 ·intro h l hl;have:=h l hl;rw[GC] at this;simp at this;obtain⟨w,h1,h2⟩:=this;exact⟨w,h1,h2⟩
 ·rintro h l hl z;obtain⟨w,h1,h2⟩:=h l hl;rw[GC] at z;rw[z w h1] at h2;cases h2
noncomputable def inB1(ws:List (List (Int×Int)))(p:List (Int×Int)):Bool:=(firstL ws p).isNone
theorem PJ:inB1 ws p=true↔AllIn ws p:=by
 unfold inB1;rw[Option.isNone_iff_eq_none,LO]
theorem AllIn.mono{vs:List (List (Int×Int))}(h:AllIn ws p)(s:∀w∈ws,w∈vs):AllIn vs p:=λl hl=>by
 obtain⟨w,h1,h2⟩:=h l hl;exact⟨w,s w h1,h2⟩
noncomputable def butW(stay:List (List (Int×Int)))(w:List (Int×Int)):List (List (Int×Int)):=stay.filter λu=>!decide (u=w)
theorem Fz{stay:List (List (Int×Int))}{w u:List (Int×Int)}:u∈butW stay w↔u∈stay/\u≠w:=by
 unfold butW;rw[H_];simp
noncomputable def spStep(stay:List (List (Int×Int)))(w:List (Int×Int)):List (List (Int×Int)):=if inB1 (butW stay w) w=true then butW stay w else stay
noncomputable def spareL(R:List (List (Int×Int))):List (List (Int×Int)):=R.foldl spStep R
theorem L6(stay:List (List (Int×Int)))(w:List (Int×Int)):(spStep stay w).Sublist stay:=by
 unfold spStep butW;split
 ·exact Vs
 ·exact UI _
theorem zB:∀(ps stay:List (List (Int×Int))),(ps.foldl spStep stay).Sublist stay
 | [],stay=>UI _
 | p::ps,stay=>(zB ps _).trans (L6 stay p)
theorem LB{stay:List (List (Int×Int))}{w:List (Int×Int)}(hw:Wf n w)(hl:l.length=n)(h:∃u∈stay,hasB u l=true):∃u∈spStep stay w,hasB u l=true:=by
 unfold spStep;split
 ·rename_i c;obtain⟨u,h1,h2⟩:=h;by_cases e:u=w
  ·subst e;exact PJ.mp c l (AA.mpr ⟨by rw[hl,hw.len],h2⟩)
  ·exact⟨u,Fz.mpr ⟨h1,e⟩,h2⟩
 ·exact h
theorem Gn{n:Nat}{l:List Int}(hl:l.length=n):∀(ps stay:List (List (Int×Int))),(∀p∈ps,Wf n p)->(∃u∈stay,hasB u l=true)->∃u∈ps.foldl spStep stay,hasB u l=true
 | [],stay,_,h=>h
 | p::ps,stay,hp,h=>Gn hl ps _ (λq hq=>hp q (j_ _ hq)) (LB (hp p m_) hl h)
theorem IsRoof.part{R K:List (List (Int×Int))}(a:IsRoof ws R)(s:K.Sublist R):IsRoof K K:=⟨a.up.sublist (s.map _),a.nd.sublist s,λw=>by
 constructor
 ·intro h;refine⟨h,?_⟩;rw[VB];intro z;obtain⟨u,h1,h2,h3⟩:=Al.mp z;have:=((a.mem w).mp (s.subset h)).2;rw[Al.mpr ⟨u,a.sub (s.subset h1),h2,h3⟩] at this;cases this
 ·exact λh=>h.1⟩
theorem IsRoof.one(w:List (Int×Int)):IsRoof [w] [w]:=⟨List.pairwise_singleton _ _,by simp,λu=>by
 rw[s_];constructor
 ·rintro rfl;refine⟨rfl,?_⟩;simp[undB]
 ·exact λh=>h.1⟩
theorem Lc{l:D}{x:D}:ixF (.tup [x,l]) (.int 0)=some x:=rfl
theorem Np(hw:∀w∈ws,Wf n w)(hl:ws.length<=100)(hn:n<=3)(hp:Wf n p):∃x,cvF xz [.lst (ws.map wishD),wishD p]=some (.tup [.str (if inB1 ws p=true then "in" else "out"),x]):=by
 obtain⟨d,e,r⟩:=Nf hw hl hn hp
 rcases r with⟨l,h1,rfl⟩ | ⟨t,h1,_,_,rfl⟩
 ·refine⟨letD l,?_⟩;rw[if_neg (by unfold inB1;rw[h1];simp)];exact e
 ·refine⟨trD t,?_⟩;rw[if_pos (by unfold inB1;rw[h1];rfl)];exact e
theorem Lo:noLA (ws.map wishD)=true:=by
 have pr:∀w:List (Int×Int),noLA (w.map pairD)=true:=λw=>by
  induction w with
  | nil=>simp[noLA]
  | cons p w ih =>
   rw[G_,noLA,ih];simp[pairD,noL,noLA]
 induction ws with
 | nil=>simp[noLA]
 | cons w ws ih =>
  rw[G_,noLA,ih];simp[wishD,noL,pr]
theorem Kk(aZ:∀u∈ws,Wf n u)(h1:1<=n)(hn:n<=3)(hl:ws.length<=18)(a:IsRoof ws T)(lT:T.length<=ws.length){KE:Fl->Gm->Prop}(k1:∀ae,(∃l,fin (map R.val [.lst (ws.map wishD)]) ae=some l)->KE (.rt (.fro ((spareL T).map wishD))) ae):wp yN [some (.val (.lst (ws.map wishD))),none,none,none,none] KE:=by
 have e1:=GZ aZ h1 hn hl a;rw[yN];refine sK ?_;rintro K hK -;simp[e1];refine hK _ ?_;refine sK ?_;rintro K hK -;refine⟨_,_,rfl,hK _ ?_⟩;show wp _ [some (.val (.lst (ws.map wishD))),some (.fro (T.map wishD)),some (.fro (T.map wishD)),none,none] _;refine sK ?_;rintro K hK -;simp;refine ud (J:=λi Γ=>∃x3 x4,Γ=[some (.val (.lst (ws.map wishD))),some (.fro (T.map wishD)),some (.fro (((T.take i).foldl spStep T).map wishD)),x3,x4]) ⟨_,_,rfl⟩ ?_ ?_
 ·rintro i d Γ hd ⟨x3,x4,rfl⟩ KL aI - - -;rw[C_,Q_] at hd;obtain⟨w,hw,rfl⟩:=hd;have qY:=aZ w (a.sub (RZ hw));have tk:T.take (i+1)=T.take i++[w]:=by rw[Uq,hw];rfl
  rw[tk,VA] at aI;simp only[X6,List.foldl_nil] at aI;have sb:=zB (T.take i) T;generalize (T.take i).foldl spStep T=stay at *;have sl:=sb.length_le;have gw:∀u∈stay,Wf n u:=λu hu=>aZ u (a.sub (sb.subset hu))
  have bl:(butW stay w).length<=100:=y_ (TV _ _) (by omega);obtain⟨x,e2⟩:=Np (ws:=butW stay w) (λu hu=>gw u (Fz.mp hu).1) bl hn qY;simp;refine sK ?_;rintro K hK -;simp;refine uA stay wishD (λu=>!decide (u=w)) wishD ?_;simp[yS];refine⟨by omega,λu hu=>⟨by have:=vz (w:=u);omega,by have:=vz (w:=w);omega⟩,hK _ ?_⟩
  change wp _ [_,_,_,_,some (.fro ((butW stay w).map wishD))] _
  simp[e2,Lc];by_cases c:inB1 (butW stay w) w=true
  ·rw[show spStep stay w=butW stay w from if_pos c] at aI;simp[c,deq,dep];exact aI _ ⟨_,_,rfl⟩
  ·rw[show spStep stay w=stay from if_neg c] at aI;simp[c,deq,dep];exact aI _ ⟨_,_,rfl⟩
 ·rintro Γ ⟨x3,x4,rfl⟩;refine hK _ ?_;rw[q_,Tj];simp;exact k1 _ ⟨_,rfl⟩
theorem Hq(aZ:∀u∈ws,Wf n u)(h1:1<=n)(hn:n<=3)(hl:ws.length<=18)(a:IsRoof ws T)(lT:T.length<=ws.length):coF xu [.lst (ws.map wishD)]=some ((spareL T).map wishD):=
 M7 rfl Lo λKE k1=>Kk aZ h1 hn hl a lT k1
def Adj(rs:List (Int×Int))(a b:Int):Prop:=(a,b)∈rs\/(b,a)∈rs
theorem Adj.symm{a b:Int}(h:Adj rs a b):Adj rs b a:=h.elim .inr .inl
structure Web(n:Nat)(rs:List (Int×Int))(rk:Int->Nat):Prop where
 n1:1<=n
 n8:n<=8
 lt:∀r∈rs,0<=r.1/\r.1 < r.2/\r.2 < n
 nd:rs.Nodup
 ne:∀a b,Adj rs a b->rk a≠rk b
 rk8:∀a b,Adj rs a b->rk a < 8
 one:∀v a b,Adj rs v a->Adj rs v b->rk a < rk v->rk b < rk v->a=b
def Par(rs:List (Int×Int))(rk:Int->Nat)(v p:Int):Prop:=Adj rs v p/\rk p < rk v
inductive Desc(rs:List (Int×Int))(rk:Int->Nat)(x:Int):Int->Prop where
 | refl:Desc rs rk x x
 | up {v p:Int} (a:Par rs rk v p) (d:Desc rs rk x p):Desc rs rk x v
noncomputable def Wl(N:Int->List Int):Nat->Option Int->Int->List Int
 | 0,_,h=>[h]
 | k+1,c,h=>h::((N h).filter λu=>decide (some u≠c)).flatMap (Wl N k (some h))
theorem zM{N:Int->List Int}{c:Option Int}{h:Int}:h∈Wl N k c h:=by
 cases k<;>exact m_
theorem u8{N:Int->List Int}{c:Option Int}{h v:Int}:v∈Wl N (k+1) c h↔v=h\/∃u,u∈N h/\some u≠c/\v∈Wl N k (some h) u:=by
 rw[Wl,B_,SB];simp only[H_,decide_eq_true_eq,and_assoc]
section
variable{rk:Int->Nat}{N:Int->List Int}
theorem Desc.rk_le{x v:Int}(h:Desc rs rk x v):rk x<=rk v:=by
 induction h with
 | refl=>exact w_ _
 | up a _ ih=>exact y_ ih (UW a.2)
theorem Desc.trans{x y v:Int}(h1:Desc rs rk x y)(h2:Desc rs rk y v):Desc rs rk x v:=by
 induction h2 with
 | refl=>exact h1
 | up a _ ih=>exact .up a ih
theorem Web.chain(W:Web n rs rk){a b v:Int}(h1:Desc rs rk a v)(h2:Desc rs rk b v):Desc rs rk a b\/Desc rs rk b a:=by
 induction h1 with
 | refl=>exact .inr h2
 | @up v p q d ih =>
  cases h2 with
  | refl=>exact .inl (.up q d)
  | @up _ p' q' d' =>
   have:=W.one v p p' q.1 q'.1 q.2 q'.2;subst this;exact ih d'
theorem Web.sib0(W:Web n rs rk){a b h:Int}(pa:Par rs rk a h)(pb:Par rs rk b h)(d:Desc rs rk a b):a=b:=by
 cases d with
 | refl=>rfl
 | @up _ p q d' =>
  have:=W.one b p h q.1 pb.1 q.2 pb.2;subst this;have:=d'.rk_le;have:=pa.2;omega
theorem Web.sib(W:Web n rs rk){a b h v:Int}(pa:Par rs rk a h)(pb:Par rs rk b h)(h1:Desc rs rk a v)(h2:Desc rs rk b v):a=b:=by
 rcases W.chain h1 h2 with d | d
 ·exact W.sib0 pa pb d
 ·exact(W.sib0 pb pa d).symm
def Side(rs:List (Int×Int))(rk:Int->Nat)(c h v:Int):Prop:=(rk c < rk h/\Desc rs rk h v)\/(rk h < rk c/\¬Desc rs rk c v)
theorem Web.side(W:Web n rs rk)(hN:∀v u,u∈N v↔Adj rs v u):∀(k:Nat) (c h:Int),Adj rs c h->∀v∈Wl N k (some c) h,Side rs rk c h v:=by
 have base:∀c h,Adj rs c h->Side rs rk c h h:=λc h a=>by
  have:=W.ne c h a;by_cases l:rk c < rk h
  ·exact .inl ⟨l,.refl⟩
  ·exact .inr ⟨by omega,λd=>by have:=d.rk_le;omega⟩
 intro k
 induction k with
 | zero=>intro c h a v hv;rw[Wl,s_] at hv;subst hv;exact base c v a
 | succ k ih =>
  intro c h a v hv
  rcases u8.mp hv with rfl | ⟨u,hu,hc,hv⟩
  ·exact base c v a
  ·have au:=(hN h u).mp hu;have hc:u≠c:=λz=>hc (by rw[z])
   have s:=ih h u au v hv;have n1:=W.ne c h a;have n2:=W.ne h u au;by_cases l:rk c < rk h
   ·rcases s with⟨s1,s2⟩ | ⟨s1,_⟩
    ·exact .inl ⟨l,.trans (.up ⟨au.symm,s1⟩ .refl) s2⟩
    ·exact absurd (W.one h u c au a.symm s1 l) hc
   ·have l:rk h < rk c:=by omega
    have pc:Par rs rk c h:=⟨a,l⟩;refine .inr ⟨l,λd=>?_⟩
    rcases s with⟨s1,s2⟩ | ⟨s1,s2⟩
    ·exact hc (W.sib (h:=h) ⟨au.symm,s1⟩ pc s2 d)
    ·exact s2 (.trans (.up pc .refl) d)
theorem Web.back(W:Web n rs rk)(hN:∀v u,u∈N v↔Adj rs v u){c h:Int}(a:Adj rs c h):c∉Wl N k (some c) h:=λm=>by
 rcases W.side hN k c h a c m with⟨s1,s2⟩ | ⟨_,s2⟩
 ·have:=s2.rk_le;omega
 ·exact s2 .refl
theorem Web.apart(W:Web n rs rk)(hN:∀v u,u∈N v↔Adj rs v u){h a b v:Int}(ha:Adj rs h a)(hb:Adj rs h b)(h1:v∈Wl N k (some h) a)(h2:v∈Wl N k (some h) b):a=b:=by
 rcases W.side hN k h a ha v h1 with⟨s1,s2⟩ | ⟨s1,s2⟩<;>rcases W.side hN k h b hb v h2 with⟨t1,t2⟩ | ⟨t1,t2⟩
 ·exact W.sib (h:=h) ⟨ha.symm,s1⟩ ⟨hb.symm,t1⟩ s2 t2
 ·exact absurd (.trans (.up ⟨ha.symm,s1⟩ .refl) s2) t2
 ·exact absurd (.trans (.up ⟨hb.symm,t1⟩ .refl) t2) s2
 ·exact W.one h a b ha hb s1 t1
theorem Gb{α β:Type}{f:α->List β}:∀{l:List α},l.Nodup->(∀x∈l,(f x).Nodup)->(∀x∈l,∀y∈l,∀v,v∈f x->v∈f y->x=y)->(l.flatMap f).Nodup
 | [],_,_,_=>WE
 | x::l,hn,h1,h2=>by
  rw[R9,Xj];rw[SL] at hn;refine⟨h1 x m_,Gb hn.2 (λy hy=>h1 y (j_ _ hy)) (λy hy z hz=>h2 y (j_ _ hy) z (j_ _ hz)),λv hv u hu e=>?_⟩;subst e;obtain⟨y,hy,cD⟩:=SB.mp hu;have:=h2 x m_ y (j_ _ hy) v hv cD;subst this;exact hn.1 hy
theorem Web.nodup(W:Web n rs rk)(hN:∀v u,u∈N v↔Adj rs v u)(hn:∀v,(N v).Nodup):∀(k:Nat) (c:Option Int) (h:Int),(Wl N k c h).Nodup:=by
 intro k
 induction k with
 | zero=>intro c h;rw[Wl];exact SL.mpr ⟨by simp,WE⟩
 | succ k ih =>
  intro c h;rw[Wl,SL];refine⟨λm=>?_,Gb ((hn h).filter _) (λu hu=>ih _ _) λu hu v hv x h1 h2=>?_⟩
  ·obtain⟨u,hu,m⟩:=SB.mp m;exact W.back hN ((hN h u).mp (H_.mp hu).1) m
  ·exact W.apart hN ((hN h u).mp (H_.mp hu).1) ((hN h v).mp (H_.mp hv).1) h1 h2
noncomputable def mu(rk:Int->Nat):Option Int->Int->Nat
 | none,_=>18
 | some c,h=>if rk c < rk h then 8 - rk h else 9+rk h
theorem Web.mu_lt(W:Web n rs rk){c:Option Int}{h u:Int}(hc:∀x,c=some x->Adj rs x h)(hu:Adj rs h u)(ne:some u≠c):mu rk (some h) u < mu rk c h:=by
 have n2:=W.ne h u hu;have r1:=W.rk8 h u hu;have r2:=W.rk8 u h hu.symm;cases c with
 | none=>simp only[mu];split<;>omega
 | some c =>
  have a:=hc c rfl;have n1:=W.ne c h a;simp only[mu];by_cases l:rk c < rk h
  ·rw[if_pos l];by_cases m:rk h < rk u
   ·rw[if_pos m];omega
   ·exact absurd (W.one h u c hu a.symm (by omega) l) (λz=>ne (by rw[z]))
  ·rw[if_neg l];split<;>omega
theorem DH(S:Int->Prop)(c:Option Int)(hS:∀v u,S v->u∈N v->some u≠c->S u):∀(k:Nat) (c':Option Int) (h:Int),S h->(∀v∈Wl N k c' h,some v≠c)->∀v∈Wl N k c' h,S v:=by
 intro k
 induction k with
 | zero=>intro c' h hh _ v hv;rw[Wl,s_] at hv;subst hv;exact hh
 | succ k ih =>
  intro c' h hh hc v hv
  rcases u8.mp hv with rfl | ⟨u,hu,oG,hv⟩
  ·exact hh
  ·refine ih (some h) u (hS h u hh hu (hc u (u8.mpr (.inr ⟨u,hu,oG,zM⟩)))) (λw hw=>hc w (u8.mpr (.inr ⟨u,hu,oG,hw⟩))) v hv
end
noncomputable def webD(n:Nat)(rs:List (Int×Int)):D:=.tup [.int n,.tup (rs.map pairD)]
@[simp] theorem Qp:ixF (webD n rs) (.int 0)=some (.int n):=rfl
@[simp] theorem Qu:ixF (webD n rs) (.int 1)=some (.tup (rs.map pairD)):=rfl
noncomputable def sortI(xs:List Int):List Int:=xs.mergeSort λa b=>decide (a<=b)
theorem An(xs:List Int):(sortI xs).Perm xs:=Vo _ _
theorem OH(xs:List Int):sortD (xs.map D.int)=(sortI xs).map D.int:=by
 unfold sortD sortI;refine(W3 λa _ b _=>?_).symm;unfold leD;rw[vh];by_cases h:a<=b
 ·rw[decide_eq_true h,decide_eq_false (by omega)];rfl
 ·rw[decide_eq_false h,decide_eq_true (by omega)];rfl
theorem Ij{xs:List Int}:depA (xs.map D.int)<=0:=uw λd hd=>by
 obtain⟨n,_,rfl⟩:=u_.mp hd;simp[dep]
theorem Gj{xs:List Int}(h:xs.length < 64):sortF [.lst (xs.map D.int)]=some ((sortI xs).map D.int):=by
 rw[EL,OH];refine⟨by simpa using h,?_,by have:=Ij (xs:=xs);omega,.inl ?_⟩
 ·unfold cmAll;rw[n_];intro a ha;rw[n_];intro b hb;obtain⟨i,_,rfl⟩:=u_.mp ha;obtain⟨j,_,rfl⟩:=u_.mp hb;rfl
 ·rw[n_];intro a ha;obtain⟨i,_,rfl⟩:=u_.mp ha;rfl
theorem zv{α β:Type}{f:α->β}:∀{l:List α},l.Nodup->(∀x∈l,∀y∈l,f x=f y->x=y)->(l.map f).Nodup
 | [],_,_=>WE
 | x::l,hn,h=>by
  rw[SL] at hn;rw[G_,SL];refine⟨λm=>?_,zv hn.2 λy hy z hz=>h y (j_ _ hy) z (j_ _ hz)⟩;obtain⟨y,hy,e⟩:=u_.mp m;have:=h y (j_ _ hy) x m_ e;subst this;exact hn.1 hy
noncomputable def nbL(rs:List (Int×Int))(h:Int):List Int:=(rs.filter λr=>decide (h=r.1)||decide (h=r.2)).map λr=>if r.1=h then r.2 else r.1
noncomputable def nbs(rs:List (Int×Int))(h:Int):List Int:=sortI (nbL rs h)
section
variable{rk:Int->Nat}
theorem Web.nb0(W:Web n rs rk)(h u:Int):u∈nbL rs h↔Adj rs h u:=by
 unfold nbL Adj;rw[u_];constructor
 ·rintro⟨⟨a,b⟩,hr,e⟩;rw[H_] at hr;obtain⟨hr,c⟩:=hr;simp only[Bool.or_eq_true,decide_eq_true_eq] at c;simp only at e;by_cases q:a=h
  ·rw[if_pos q] at e;subst q;subst e;exact .inl hr
  ·rw[if_neg q] at e;subst e
   rcases c with c | c
   ·exact absurd c.symm q
   ·subst c;exact .inr hr
 ·rintro(m | m)
  ·exact⟨(h,u),H_.mpr ⟨m,by simp⟩,if_pos rfl⟩
  ·have:=W.lt _ m;exact⟨(u,h),H_.mpr ⟨m,by simp⟩,if_neg (show ¬u=h by have:=this.2.1;simp only at this;omega)⟩
theorem Web.nb0_nodup(W:Web n rs rk)(h:Int):(nbL rs h).Nodup:=by
 unfold nbL;refine zv (filter _ W.nd) λx hx y hy e=>?_
 obtain⟨a,b⟩:=x;obtain⟨c,d⟩:=y;rw[H_] at hx hy;have l1:=W.lt _ hx.1;have l2:=W.lt _ hy.1;have h1:=hx.2;have h2:=hy.2;simp only[Bool.or_eq_true,decide_eq_true_eq] at h1 h2;simp only at e l1 l2;rw[WQ];split at e<;>split at e<;>omega
theorem Web.nb(W:Web n rs rk)(h u:Int):u∈nbs rs h↔Adj rs h u:=by
 unfold nbs;rw[(An _).mem_iff];exact W.nb0 h u
theorem Web.nb_nodup(W:Web n rs rk)(h:Int):(nbs rs h).Nodup:=by
 unfold nbs;exact(An _).symm.nodup (W.nb0_nodup h)
theorem Web.in_n(W:Web n rs rk){a b:Int}(h:Adj rs a b):0<=a/\a < n/\0<=b/\b < n:=by
 rcases h with h | h
 ·have:=W.lt _ h;simp only at this;omega
 ·have:=W.lt _ h;simp only at this;omega
theorem Ay(hn:l.Nodup)(h:∀x∈l,0<=x/\x < m):l.length<=m:=by
 have:=yC l ((Sx m).map λk:Nat=>(k:Int)) hn λx hx=>by
  obtain⟨h1,h2⟩:=h x hx;exact u_.mpr ⟨x.toNat,SY.mpr (by omega),by omega⟩
 simpa using this
theorem Web.nb_len(W:Web n rs rk)(h:Int):(nbL rs h).length<=n:=Ay (W.nb0_nodup h) λx hx=>by
 have:=W.in_n ((W.nb0 h x).mp hx);omega
theorem Web.rs_len(W:Web n rs rk):rs.length<=64:=by
 have:=yC rs ((Sx 64).map λk:Nat=>(((k / 8:Nat):Int),((k % 8:Nat):Int))) W.nd λr hr=>by
  have:=W.lt r hr;have:=W.n8;refine u_.mpr ⟨r.1.toNat*8+r.2.toNat,SY.mpr (by omega),?_⟩;obtain⟨a,b⟩:=r;simp only at *;rw[WQ];omega
 simpa using this
end
theorem vQ{h:Int}(h0:0<=h)(h1:h < n):cvF uo [webD n rs,.int h]=some .non:=by
 refine ug rfl λKE _ k2=>?_
 rw[B0];simp[h0,h1];exact k2 _ rfl ⟨_,rfl⟩
theorem uK{a b:Int}:deq (.int a) (.int b)=decide (a=b):=by
 rw[deq];by_cases h:a=b<;>simp[h]
theorem Gx{a b:Int}:(a == b)=decide (a=b):=by
 by_cases h:a=b<;>simp[h]
theorem HF{a b:Int}:(a == b)=decide (b=a):=by
 by_cases h:b=a
 ·simp[h]
 ·have:¬a=b:=λz=>h z.symm
  simp[h,this]
theorem P3{h:Int}{r:Int×Int}:inF false (.int h) (pairD r)=some (.bl (decide (h=r.1)||decide (h=r.2))):=by
 unfold inF;simp[pairD,seqI,deq,dep,depA,HF]
theorem vJ{rk:Int->Nat}(W:Web n rs rk){h:Int}(h0:0<=h)(h1:h < n):coF uR [webD n rs,.int h]=some ((nbs rs h).map D.int):=by
 have e1:=vQ (rs:=rs) h0 h1;have l1:=W.rs_len;have l2:=W.nb_len h;have l3:=W.n8;have e2:sortF [.lst ((nbL rs h).map D.int)]=some ((nbs rs h).map D.int):=Gj (by omega);refine vc rfl λKE k1=>?_
 rw[BJ];refine sK ?_;rintro K hK -;simp[e1];refine hK _ ?_;simp;refine uA rs pairD (λr=>decide (h=r.1)||decide (h=r.2)) (λr=>.int (if r.1=h then r.2 else r.1)) ?_;simp[P3,dep,uK];refine⟨by omega,λa b _ _=>by split<;>intro z<;>first | exact absurd (by assumption) z | exact absurd z (by assumption),?_⟩
 have e3:map (λr=>D.int (if r.1=h then r.2 else r.1)) (Xy (λr=>decide (h=r.1)||decide (h=r.2)) rs)=(nbL rs h).map D.int:=by
  unfold nbL;rw[VC];rfl
 rw[e3,e2];simp;exact k1 _ ⟨_,rfl⟩
noncomputable def cameD:Option Int->D
 | none=>.non
 | some c=>.int c
@[simp] theorem Q8{c:Option Int}:dep (cameD c)=0:=by cases c<;>rfl
theorem vL{u:Int}{c:Option Int}:deq (.int u) (cameD c)=decide (some u=c):=by
 cases c with
 | none=>simp[cameD,deq]
 | some c =>
  simp only[cameD,uK];by_cases h:u=c<;>simp[h]
theorem Web.wl_len{rk:Int->Nat}(W:Web n rs rk)(k:Nat)(c:Option Int)(h:Int)(h0:0<=h)(h1:h < n):(Wl (nbs rs) k c h).length<=n:=Ay (W.nodup W.nb W.nb_nodup k c h) λx hx=>by
 refine DH (N:=nbs rs) (λv=>0<=v/\v < n) none (λv u _ hu _=>?_) k c h ⟨h0,h1⟩ (λv _ z=>by cases z) x hx;have:=W.in_n ((W.nb v u).mp hu);omega
theorem vW{rk:Int->Nat}(W:Web n rs rk){c h:Int}(a:Adj rs c h):mu rk (some c) h < 20:=by
 have:=W.rk8 h c a.symm;simp only[mu];split<;>omega
theorem ER{rk:Int->Nat}(W:Web n rs rk){a b:Int}(h:Adj rs a b):cvF xa [webD n rs,.int a,.int b]=some .non:=by
 obtain⟨h0,h1,h2,h3⟩:=W.in_n h;have e1:=vQ (rs:=rs) h0 h1;have e2:=vQ (rs:=rs) h2 h3;have e3:=vJ W h0 h1
 have e4:inF true (.int b) (.lst ((nbs rs a).map D.int))=some (.bl false):=by
  unfold inF
  have:((nbs rs a).map D.int).any (λd=>deq d (.int b))=true:=by
   rw[Sg];exact⟨.int b,u_.mpr ⟨b,(W.nb a b).mpr h,rfl⟩,by simp[deq]⟩
  simp[seqI,dep];simpa using this
 refine ug rfl λKE _ k2=>?_
 rw[BP];refine sK ?_;rintro K hK -;simp[e1];refine hK _ ?_;refine sK ?_;rintro K hK -;simp[e2];refine hK _ ?_;simp[e3,e4];exact k2 _ rfl ⟨_,rfl⟩
theorem JQ{rk:Int->Nat}(W:Web n rs rk):∀(k:Nat) (c:Option Int) (h:Int),0<=h->h < n->(∀x,c=some x->Adj rs x h)->mu rk c h < k->cvF (vt k) [webD n rs,cameD c,.int h]=some (.lst ((Wl (nbs rs) k c h).map D.int)):=by
 intro k
 induction k with
 | zero=>intro c h _ _ _ hm;omega
 | succ k ih =>
  intro c h h0 h1 hc hm;have e1:=vJ W h0 h1
  have wl:∀(k:Nat) (c:Option Int) (h:Int),0<=h->h < n->(Wl (nbs rs) k c h).length<=n:=λk c h h0 h1=>Ay (W.nodup W.nb W.nb_nodup k c h) λx hx=>by
   refine DH (N:=nbs rs) (λv=>0<=v/\v < n) none (λv u _ hu _=>?_) k c h ⟨h0,h1⟩ (λv _ z=>by cases z) x hx;have:=W.in_n ((W.nb v u).mp hu);omega
  have l3:=W.n8;rw[vt];refine ug rfl λKE k1 _=>?_
  rw[za];refine sK ?_;rintro K hK -;refine⟨_,_,rfl,hK _ ?_⟩;show wp _ [some (.val (webD n rs)),some (.val (cameD c)),some (.val (.int h)),some (.own [.int h]),none] _;refine sK ?_;rintro K hK -;simp[e1];refine ud (J:=λi Γ=>∃x,Γ=[some (.val (webD n rs)),some (.val (cameD c)),some (.val (.int h)),some (.own ((h::(((nbs rs h).take i).filter λu=>decide (some u≠c)).flatMap (Wl (nbs rs) k (some h))).map D.int)),x]) ⟨none,rfl⟩ ?_ ?_
  ·rintro i d Γ hd ⟨x,rfl⟩ KL aI - - -;rw[C_,Q_] at hd;obtain⟨u,hu,rfl⟩:=hd;have tk:(nbs rs h).take (i+1)=(nbs rs h).take i++[u]:=by rw[Uq,hu];rfl
   rw[tk,SV,SN] at aI;have au:=(W.nb h u).mp (RZ hu);have un:=W.in_n au
   have cj:((((nbs rs h).take i).filter λu=>decide (some u≠c)).flatMap (Wl (nbs rs) k (some h))).length<=64:=by
    refine y_ (yj (m:=n) λx hx=>?_) ?_
    ·have:=W.in_n ((W.nb h x).mp (SQ (H_.mp hx).1));exact wl _ _ _ (by omega) (by omega)
    ·have:=TV (λu=>decide (some u≠c)) ((nbs rs h).take i);have l4:(nbs rs h).length<=n:=by unfold nbs;rw[(An _).length_eq];exact W.nb_len h
     rw[Um] at this;exact y_ (Nat.mul_le_mul (y_ this (by omega:min i (nbs rs h).length<=8)) (by omega:n<=8)) (by decide)
   generalize (((nbs rs h).take i).filter λu=>decide (some u≠c)).flatMap (Wl (nbs rs) k (some h))=L at aI cj ⊢;refine⟨_,_,rfl,?_⟩;show wp _ [some (.val (webD n rs)),some (.val (cameD c)),some (.val (.int h)),some (.own ((h::L).map D.int)),some (.val (.int u))] _;by_cases aW:some u=c
   ·simp[dep,vL,aW];exact aI _ ⟨some (.val (.int u)),by simp[aW]⟩
   ·have lt:=W.mu_lt hc au aW;have e3:=ih (some h) u (by omega) (by omega) (λx z=>by cases z;exact au) (by omega);have lw:=wl k (some h) u (by omega) (by omega)
    change cvF (vt k) [webD n rs,.int h,.int u]=_ at e3
    simp[dep,vL,aW,isMut,R.mut,e3];exact⟨by omega,aI _ ⟨some (.val (.int u)),by simp[aW]⟩⟩
  ·rintro Γ ⟨x,rfl⟩;refine hK _ ?_;rw[q_,Tj];exact⟨_,_,rfl,k1 _ ⟨_,rfl⟩⟩
theorem HU{rk:Int->Nat}(W:Web n rs rk){c h:Int}(a:Adj rs c h):coF yy [webD n rs,.int c,.int h]=some ((sortI (Wl (nbs rs) 20 (some c) h)).map D.int):=by
 obtain⟨h0,h1,h2,h3⟩:=W.in_n a;have e1:=ER W a;have e2:=JQ W 20 (some c) h h2 h3 (λx z=>by cases z;exact a) (vW W a)
 change cvF (vt 20) [webD n rs,.int c,.int h]=_ at e2
 have l1:=W.wl_len 20 (some c) h h2 h3;have l2:=W.n8;have e3:=Gj (xs:=Wl (nbs rs) 20 (some c) h) (by omega);refine vc rfl λKE k1=>?_
 rw[AM];refine sK ?_;rintro K hK -;simp[e1];refine hK _ ?_;simp[e2,e3];exact k1 _ ⟨_,rfl⟩
theorem Ln{g:M Fl}{m:M Nat}{Q:Fl->Gm->Prop}(h:m Γ=none)(k:wp g Γ Q):wp (tryE g m j i) Γ Q:=by
 unfold wp tryE;rw[h];exact k
theorem IM{g:M Fl}{m:M Nat}{c:Nat}{Q:Fl->Gm->Prop}(h:m Γ=some (c,Γ1))(e:(bnd (putS j (.val (.exc (xNm c) none))) λ_=>bnd (setV i (nm j)) λ_=>bnd (clr j) λ_=>ret Fl.nx) Γ1=some (Fl.nx,Γ2))(k:Q Fl.nx Γ2):wp (tryE g m j i) Γ Q:=by
 unfold wp tryE;rw[h];exact⟨_,_,e,k⟩
theorem t6{α:Type}{m:M α}{v:α}(h:wp m Γ λx ae=>x=v/\ae=Γ2):m Γ=some (v,Γ2):=by
 obtain⟨_,_,e,rfl,rfl⟩:=h;exact e
section
variable{rk:Int->Nat}{a b:Int}
noncomputable def isH(n:Nat)(a:Int):Bool:=decide (0<=a)&&decide (a < n)
theorem LK(g1:Γ[1]?=some (some (.val (.int a))))(g0:Γ[0]?=some (some (.val (webD n rs)))):notT (tst (chn leI ltI (ret (.int 0)) (nm 1) (op2 ixF (nm 0) (ret (.int 0))))) Γ=some (!isH n a,Γ):=by
 refine t6 ?_;unfold isH;by_cases h0:0<=a<;>simp[g0,g1,webD,h0]
theorem vV(f:few9 a):u6 [webD n rs,.int a]=if isH n a then none else some 1:=by
 have t:=LK (n:=n) (rs:=rs) (a:=a) (Γ:=[some (.val (webD n rs)),some (.val (.int a))]) rfl rfl;show(ifX _ _ _ [some (.val (webD n rs)),some (.val (.int a))]).map _=_;cases h:isH n a<;>simp[ifX,bnd,t,h,raX,consA,ret,nilA,lft,nvX,un1,f1F,nm,f]
theorem ID(h:isH n a=true):cvF uo [webD n rs,.int a]=some .non:=by
 unfold isH at h;simp only[J_,decide_eq_true_eq] at h;exact vQ h.1 h.2
theorem Ib(f:few9 a):zk [webD n rs,.int a]=if isH n a then none else some 1:=by
 show(fnX _ _ [some (.val (webD n rs)),some (.val (.int a))]).map _=_;have:=vV (rs:=rs) (n:=n) f;cases h:isH n a<;>simp[fnX,bnd,consA,ret,nilA,lft,nm,this,h]
theorem Be(h:isH n a=true)(g0:Γ[0]?=some (some (.val (webD n rs))))(gi:Γ[i]?=some (some (.val (.int a)))):dropS (fn1 (cvF uo) (consA (nm 0) (consA (nm i) nilA))) Γ=some (Fl.nx,Γ):=by
 refine t6 ?_;simp[g0,gi,ID h]
theorem tM{gx:List D->Option Nat}(ht:t Γ=some (ds,Γ)):fnX gx t Γ=(gx ds).map λc=>(c,Γ):=by
 unfold fnX bnd;rw[ht];dsimp only;unfold lft;cases gx ds<;>rfl
theorem uT{m:M Nat}{r:Nat×Gm}(h:m Γ=some r):orX m m' Γ=some r:=by unfold orX;rw[h]
theorem uL{m:M Nat}(h:m Γ=none):orX m m' Γ=m' Γ:=by unfold orX;rw[h]
theorem u5{g:M Fl}{m:M Nat}(h:g Γ=some (Fl.nx,Γ1)):thenX g m Γ=m Γ1:=by unfold thenX bnd;rw[h]
theorem uM{m:M Nat}{k:Bool}(h:c Γ=some (k,Γ1)):ifX c m m' Γ=(if k then m else m') Γ1:=by unfold ifX bnd;rw[h]
theorem Dj(f:few9 a)(f':few9 b):xi [webD n rs,.int a,.int b]=if isH n a&&isH n b then none else some 1:=by
 show(orX _ (thenX _ _) [some (.val (webD n rs)),some (.val (.int a)),some (.val (.int b))]).map _=_;have e1:=vV (rs:=rs) (n:=n) f;have e2:=vV (rs:=rs) (n:=n) f';cases h:isH n a with
 | false=>rw[uT (by rw[tM rfl,e1,h];rfl)];rfl
 | true =>
  rw[uL (by rw[tM rfl,e1,h];rfl),u5 (Be h rfl rfl),tM rfl,e2];cases isH n b<;>rfl
theorem uN:isH n a=true↔0<=a/\a < n:=by simp[isH]
theorem KF:inF true (.int b) (.lst ((nbs rs a).map D.int))=some (.bl (!decide (b∈nbs rs a))):=by
 unfold inF;simp only[seqI,dep,yK];rw[if_pos (by omega)]
 have:((nbs rs a).map D.int).any (λd=>deq d (.int b))=decide (b∈nbs rs a):=by
  rw[Ts,Sg,decide_eq_true_eq];constructor
  ·rintro⟨d,hd,e⟩;obtain⟨x,hx,rfl⟩:=u_.mp hd;simp[deq] at e;rw[←e];exact hx
  ·exact λh=>⟨_,u_.mpr ⟨b,h,rfl⟩,by simp[deq]⟩
 rw[this];rfl
theorem Gf(W:Web n rs rk)(f:few9 a)(f':few9 b):wU [webD n rs,.int a,.int b]=if isH n a&&isH n b then(if decide (b∈nbs rs a) then none else some 2) else some 1:=by
 show(orX _ (thenX _ (orX _ (thenX _ (ifX _ _ _)))) [some (.val (webD n rs)),some (.val (.int a)),some (.val (.int b))]).map _=_;have e1:=vV (rs:=rs) (n:=n) f;have e2:=vV (rs:=rs) (n:=n) f';cases h:isH n a with
 | false=>rw[uT (by rw[tM rfl,e1,h];rfl)];rfl
 | true =>
  rw[uL (by rw[tM rfl,e1,h];rfl),u5 (Be h rfl rfl)];cases h':isH n b with
  | false=>rw[uT (by rw[tM rfl,e2,h'];rfl)];rfl
  | true =>
   rw[uL (by rw[tM rfl,e2,h'];rfl),u5 (Be h' rfl rfl)];have hb:=uN.mp h;have e3:=vJ W hb.1 hb.2
   rw[uM (k:=!decide (b∈nbs rs a)) (Γ1:=[some (.val (webD n rs)),some (.val (.int a)),some (.val (.int b))]) (by
    refine t6 ?_
    simp[e3,KF])]
   cases decide (b∈nbs rs a) with
   | true=>rfl
   | false =>
    show(raX 2 _ _).map _=_;simp[raX,bnd,consA,ret,nilA,lft,op2,f2F,nm,f,f']
theorem Nu(W:Web n rs rk)(f:few9 a)(f':few9 b):xZ [webD n rs,.int a,.int b]=if isH n a&&isH n b then(if decide (b∈nbs rs a) then none else some 2) else some 1:=by
 show(fnX _ _ [some (.val (webD n rs)),some (.val (.int a)),some (.val (.int b))]).map _=_;rw[tM rfl,Gf W f f'];cases isH n a&&isH n b<;>cases decide (b∈nbs rs a)<;>rfl
end
section
variable{rk:Int->Nat}{a b:Int}
theorem xB{i:Int}(h:-(10 ^ 30)<=i/\i<=10 ^ 30):few9 i:=by
 unfold few9;exact Nat.lt_of_le_of_lt (by omega:i.natAbs<=10 ^ 30) (by decide)
end
@[simp ↓] theorem Rm{a:D}{QD:D->Gm->Prop}:wp (lft (inF neg a (.lst ds))) Γ QD↔(dep a<=99/\depA ds<=99)/\QD (.bl (if neg then !ds.any (λd=>deq d a) else ds.any λd=>deq d a)) Γ:=by
 simp only[inF,O7,u4]
noncomputable def mkR(a b:Int):Int×Int:=(if b < a then b else a,if b > a then b else a)
theorem yt{a b:Int}(h:a≠b):(mkR a b=(a,b)/\a < b)\/(mkR a b=(b,a)/\b < a):=by
 unfold mkR;by_cases l:b < a
 ·exact .inr ⟨by rw[if_pos l,if_neg (by omega)],l⟩
 ·exact .inl ⟨by rw[if_neg l,if_pos (by omega)],by omega⟩
structure LOk(m:Nat)(L:List (Nat×Nat)):Prop where
 inc:L.Pairwise λp q=>p.1 < q.1
 ok:∀q∈L,1<=q.1/\q.1 < m/\q.2 < q.1
theorem EG{L:List (Nat×Nat)}(h:L.Pairwise λp q=>p.1 < q.1){p q:Nat×Nat}(hp:p∈L)(hq:q∈L)(e:p.1=q.1):p=q:=by
 induction L with
 | nil=>cases hp
 | cons x L ih =>
  rw[US] at h
  rcases B_.mp hp with iP | iP<;>rcases B_.mp hq with cZ | cZ
  ·rw[iP,cZ]
  ·have:=h.1 q cZ;rw[←iP] at this;omega
  ·have:=h.1 p iP;rw[←cZ] at this;omega
  ·exact ih h.2 iP cZ
noncomputable def atO(os:List Int)(k:Nat):Int:=os.getD k 0
noncomputable def roadsO(os:List Int)(L:List (Nat×Nat)):List (Int×Int):=L.map λq=>mkR (atO os q.1) (atO os q.2)
section
variable{os:List Int}{L:List (Nat×Nat)}
theorem Bw(h:k < os.length):atO os k=os[k]:=by
 unfold atO;rw[h_,g_ h];rfl
theorem u9(nd:os.Nodup)(h:k < os.length):os.idxOf (atO os k)=k:=by
 rw[Bw h];exact nd.idxOf_getElem k h
theorem uW(nd:os.Nodup)(hj:j < os.length)(hk:k < os.length)(e:atO os j=atO os k):j=k:=by
 have h1:=u9 nd hj;rw[e,u9 nd hk] at h1;exact h1.symm
theorem yX(hl:os.length=m)(nd:os.Nodup)(ok:LOk m L)(hp:rs.Perm (roadsO os L)){x y:Int}(h:Adj rs x y):∃q∈L,(x=atO os q.1/\y=atO os q.2)\/(x=atO os q.2/\y=atO os q.1):=by
 have go:∀a b,(a,b)∈rs->∃q∈L,(a=atO os q.1/\b=atO os q.2)\/(a=atO os q.2/\b=atO os q.1):=λa b h=>by
  rw[hp.mem_iff] at h;obtain⟨q,hq,e⟩:=u_.mp h;have o:=ok.ok q hq;have ne:atO os q.1≠atO os q.2:=λz=>by have:=uW nd (by omega) (by omega) z;omega
  refine⟨q,hq,?_⟩
  rcases yt ne with⟨e1,_⟩ | ⟨e1,_⟩<;>rw[e1] at e<;>cases e
  ·exact .inl ⟨rfl,rfl⟩
  ·exact .inr ⟨rfl,rfl⟩
 rcases h with h | h
 ·exact go x y h
 ·obtain⟨q,hq,z⟩:=go y x h;exact⟨q,hq,z.elim (λz=>.inr ⟨z.2,z.1⟩) λz=>.inl ⟨z.2,z.1⟩⟩
theorem Ml(hl:os.length=m)(nd:os.Nodup)(rng:∀x∈os,0<=x/\x < m)(ok:LOk m L)(m1:1<=m)(m8:m<=8)(hp:rs.Perm (roadsO os L)):Web m rs λv=>os.idxOf v:=by
 have i9:∀k,k < m->0<=atO os k/\atO os k < m:=λk hk=>by
  rw[Bw (by omega)];exact rng _ (Sf _)
 have nq:∀q∈L,atO os q.1≠atO os q.2:=λq hq z=>by
  have o:=ok.ok q hq;have:=uW nd (by omega) (by omega) z;omega
 refine⟨m1,m8,λr hr=>?_,hp.symm.nodup (zv (ok.inc.imp λh e=>by rw[e] at h;exact absurd h (SW _)) λp l9 q ma e=>?_),λa b h=>?_,λa b h=>?_,λv a b ha hb la lb=>?_⟩
 ·rw[hp.mem_iff] at hr;obtain⟨q,hq,rfl⟩:=u_.mp hr;have o:=ok.ok q hq;have i1:=i9 q.1 (by omega);have i2:=i9 q.2 (by omega)
  rcases yt (nq q hq) with⟨e,l⟩ | ⟨e,l⟩<;>rw[e]<;>simp only<;>omega
 ·have o:=ok.ok p l9;have o':=ok.ok q ma;refine EG ok.inc l9 ma ?_
  rcases yt (nq p l9) with⟨e1,_⟩ | ⟨e1,_⟩<;>rcases yt (nq q ma) with⟨e2,_⟩ | ⟨e2,_⟩<;>rw[e1,e2,WQ] at e
  ·exact uW nd (by omega) (by omega) e.1
  ·have h1:=uW nd (by omega) (by omega) e.1;have h2:=uW nd (by omega) (by omega) e.2;omega
  ·have h1:=uW nd (by omega) (by omega) e.1;have h2:=uW nd (by omega) (by omega) e.2;omega
  ·exact uW nd (by omega) (by omega) e.2
 ·obtain⟨q,hq,z⟩:=yX hl nd ok hp h;have o:=ok.ok q hq
  rcases z with⟨rfl,rfl⟩ | ⟨rfl,rfl⟩<;>rw[u9 nd (by omega),u9 nd (by omega)]<;>omega
 ·obtain⟨q,hq,z⟩:=yX hl nd ok hp h;have o:=ok.ok q hq
  rcases z with⟨rfl,rfl⟩ | ⟨rfl,rfl⟩<;>rw[u9 nd (by omega)]<;>omega
 ·obtain⟨q,hq,z⟩:=yX hl nd ok hp ha;obtain⟨q',cZ,z'⟩:=yX hl nd ok hp hb;have o:=ok.ok q hq;have o':=ok.ok q' cZ
  have e1:v=atO os q.1/\a=atO os q.2:=by
   rcases z with z | ⟨rfl,rfl⟩
   ·exact z
   ·rw[u9 nd (by omega),u9 nd (by omega)] at la;omega
  have e2:v=atO os q'.1/\b=atO os q'.2:=by
   rcases z' with z' | ⟨rfl,rfl⟩
   ·exact z'
   ·rw[u9 nd (by omega),u9 nd (by omega)] at lb;omega
  have:=EG ok.inc hq cZ (uW nd (by omega) (by omega) (e1.1.symm.trans e2.1));subst this;rw[e1.2,e2.2]
end
theorem zp{p:Int×Int}:dep (pairD p)<=1:=by
 unfold pairD;simp[dep,depA]
noncomputable def sortP(ps:List (Int×Int)):List (Int×Int):=ps.mergeSort λp q=>leD (pairD p) (pairD q)
theorem G7{ps:List (Int×Int)}(h:ps.length < 64):∃rs:List (Int×Int),sortF [.lst (ps.map pairD)]=some (rs.map pairD)/\rs.Perm ps/\rs=sortP ps:=by
 refine⟨ps.mergeSort λp q=>leD (pairD p) (pairD q),?_,Vo _ _,rfl⟩;rw[EL]
 ·unfold sortD;exact congrArg some (W3 (s:=leD) (f:=pairD) λa _ b _=>rfl).symm
 ·refine⟨by simpa using h,?_,?_,.inr (.inl ?_)⟩
  ·unfold cmAll;rw[n_];intro a ha;rw[n_];intro b hb;obtain⟨i,_,rfl⟩:=u_.mp ha;obtain⟨j,_,rfl⟩:=u_.mp hb;simp[pairD,cmB,cmA]
  ·refine y_ (uw (n:=1) λd hd=>?_) (by omega);obtain⟨p,_,rfl⟩:=u_.mp hd;exact zp
  ·rw[n_];intro a ha;obtain⟨i,_,rfl⟩:=u_.mp ha;rfl
abbrev WS:=List (List (Int×Int))
noncomputable def roofL(ws:WS):WS:=(BR ws).choose
theorem va(ws:WS):IsRoof ws (roofL ws):=(BR ws).choose_spec.1
theorem A8(ws:WS):(roofL ws).length<=ws.length:=(BR ws).choose_spec.2
noncomputable def shortL(sp:Bool)(ws:WS):WS:=if sp then spareL (roofL ws) else roofL ws
noncomputable def howD(sp:Bool):D:=.str (if sp then "spare" else "roof")
@[simp] theorem QH:dep (howD sp)=0:=by cases sp<;>rfl
theorem Dm{ws:WS}{w:List (Int×Int)}(h:w∈shortL sp ws):w∈ws:=by
 unfold shortL at h;split at h
 ·exact(va ws).sub ((zB _ _).subset h)
 ·exact(va ws).sub h
theorem IN{ws:WS}:(shortL sp ws).length<=ws.length:=by
 have:=A8 ws;unfold shortL;split
 ·exact y_ (zB _ _).length_le this
 ·exact this
theorem Ba:deq (howD sp) (.str "spare")=sp/\deq (howD sp) (.str "roof")=!sp:=by
 cases sp<;>exact⟨by decide,by decide⟩
theorem GX{ws:WS}(aZ:∀u∈ws,Wf n u)(h1:1<=n)(hn:n<=3)(hl:ws.length<=18):coF xq [howD sp,.lst (ws.map wishD)]=some ((shortL sp ws).map wishD):=by
 have e1:=GZ aZ h1 hn hl (va ws);have e2:=Hq aZ h1 hn hl (va ws) (A8 ws);refine vc rfl λKE k1=>?_
 rw[Bs];refine sK ?_;rintro K hK hR;simp only[CT];cases sp with
 | true =>
  have q:=Ba (sp:=true);simp[q.1,dep,e2];exact hR _ _ (k1 _ ⟨_,rfl⟩)
 | false =>
  have q:=Ba (sp:=false);simp[q.1,dep];refine hK _ ?_;simp[e1];exact k1 _ ⟨_,rfl⟩
theorem zx{a b:M Fl}{Q:Fl->Gm->Prop}:wp (ifS c a b) Γ Q↔wp c Γ λk Γ1=>if k=true then wp a Γ1 Q else wp b Γ1 Q:=CT
abbrev HS:=List (Int×List (Int×Int))
noncomputable def holdD(p:Int×List (Int×Int)):D:=.tup [.int p.1,wishD p.2]
@[simp] theorem QY{p:Int×List (Int×Int)}:ixF (holdD p) (.int 0)=some (.int p.1):=rfl
@[simp] theorem RD{p:Int×List (Int×Int)}:ixF (holdD p) (.int 1)=some (wishD p.2):=rfl
noncomputable def ownW(hs:HS)(h:Int):WS:=(hs.filter λp=>decide (p.1=h)).map (·.2)
noncomputable def argW(sp:Bool)(N:Int->List Int)(hs:HS)(qZ:Option Int->Int->WS)(c:Option Int)(h:Int):WS:=ownW hs h++((N h).filter λu=>decide (some u≠c)).flatMap (qZ (some h))
noncomputable def tl(sp:Bool)(N:Int->List Int)(hs:HS):Nat->Option Int->Int->WS
 | 0,_,_=>[]
 | k+1,c,h=>shortL sp (argW sp N hs (tl sp N hs k) c h)
noncomputable def bW(N:Int->List Int)(hs:HS)(k:Nat)(c:Option Int)(h:Int):WS:=(Wl N k c h).flatMap (ownW hs)
theorem Dh{N:Int->List Int}{hs:HS}{c:Option Int}{h:Int}:bW N hs (k+1) c h=ownW hs h++((N h).filter λu=>decide (some u≠c)).flatMap (bW N hs k (some h)):=by
 unfold bW;rw[Wl,R9,W2]
theorem By{α β:Type}{f g:α->List β}:∀{l:List α},(∀x∈l,(f x).length<=(g x).length)->(l.flatMap f).length<=(l.flatMap g).length
 | [],_=>w_ _
 | x::l,h=>by
  have h1:=h x m_;have h2:=By λy hy=>h y (j_ _ hy)
  rw[R9,R9,v_,v_];omega
theorem Eb{hs:HS}:∀{L:List Int},L.Nodup->(L.flatMap (ownW hs)).length<=hs.length:=by
 induction hs with
 | nil =>
  intro L _;have:L.flatMap (ownW [])=[]:=List.flatMap_eq_nil_iff.mpr λ_ _=>rfl
  rw[this];exact w_ _
 | cons p hs ih =>
  intro L nd
  have bq:∀L:List Int,L.Nodup->(L.flatMap (ownW (p::hs))).length=(L.flatMap (ownW hs)).length+(if p.1∈L then 1 else 0):=by
   intro L
   induction L with
   | nil=>intro _;simp
   | cons x L ih2 =>
    intro nd;rw[SL] at nd;have i:=ih2 nd.2;rw[R9,R9,v_,v_,i]
    have e:(ownW (p::hs) x).length=(ownW hs x).length+(if p.1=x then 1 else 0):=by
     unfold ownW;by_cases q:p.1=x
     ·rw[Us (by simpa using q),if_pos q];simp
     ·rw[VZ (by simpa using q),if_neg q];rfl
    rw[e];by_cases q:p.1=x
    ·have:p.1∉L:=by rw[q];exact nd.1
     simp[q,this,nd.1];omega
    ·have:¬x=p.1:=λz=>q z.symm
     by_cases r:p.1∈L<;>simp[q,r]<;>omega
  rw[bq L nd,R8];have:=ih nd;split<;>omega
section
variable{rk:Int->Nat}{f:Nat}{hs:HS}
theorem AZ{N:Int->List Int}:∀(k:Nat) (c:Option Int) (h:Int),(tl sp N hs k c h).length<=(bW N hs k c h).length
 | 0,_,_=>Sh _
 | k+1,c,h=>by
  rw[tl,Dh];refine y_ IN ?_;unfold argW;rw[v_,v_];have:=By (l:=(N h).filter λu=>decide (some u≠c)) (f:=tl sp N hs k (some h)) (g:=bW N hs k (some h)) λu _=>AZ k (some h) u
  omega
theorem CP{h:Int}{w:List (Int×Int)}(m:w∈ownW hs h):∃p∈hs,p.1=h/\p.2=w:=by
 obtain⟨p,hp,rfl⟩:=u_.mp m;rw[H_,decide_eq_true_eq] at hp;exact⟨p,hp.1,hp.2,rfl⟩
theorem zo{N:Int->List Int}(hw:∀p∈hs,Wf f p.2):∀(k:Nat) (c:Option Int) (h:Int),(∀w∈tl sp N hs k c h,Wf f w)/\∀w∈argW sp N hs (tl sp N hs k) c h,Wf f w
 | 0,c,h=>⟨λw m=>(by cases m),λw m=>by
  unfold argW at m
  rcases P_.mp m with m | m
  ·obtain⟨p,hp,_,rfl⟩:=CP m;exact hw p hp
  ·obtain⟨u,_,m⟩:=SB.mp m;cases m⟩
 | k+1,c,h=>by
  have t:∀c h,∀w∈tl sp N hs (k+1) c h,Wf f w:=λc h w m=>(zo hw k c h).2 w (Dm m)
  refine⟨t c h,λw m=>?_⟩;unfold argW at m
  rcases P_.mp m with m | m
  ·obtain⟨p,hp,_,rfl⟩:=CP m;exact hw p hp
  ·obtain⟨u,_,m⟩:=SB.mp m;exact t _ _ w m
theorem Jl(W:Web n rs rk)(k:Nat)(c:Option Int)(h:Int):(argW sp (nbs rs) hs (tl sp (nbs rs) hs k) c h).length<=hs.length:=by
 have e:(argW sp (nbs rs) hs (tl sp (nbs rs) hs k) c h).length<=(bW (nbs rs) hs (k+1) c h).length:=by
  rw[Dh];unfold argW;rw[v_,v_];have:=By (l:=(nbs rs h).filter λu=>decide (some u≠c)) (f:=tl sp (nbs rs) hs k (some h)) (g:=bW (nbs rs) hs k (some h)) λu _=>AZ k (some h) u
  omega
 exact y_ e (Eb (W.nodup W.nb W.nb_nodup _ _ _))
end
section
variable{rk:Int->Nat}{f:Nat}{hs:HS}
noncomputable def hsD(hs:HS):D:=.lst (hs.map holdD)
theorem yH{ps:HS}(l:ps.length<=1000):coF ua [.lst (ps.map holdD)]=some ((ps.map (·.2)).map wishD):=by
 refine vc rfl λKE k1=>?_
 rw[Bd];simp;refine uA ps holdD (λ_=>true) (λp=>wishD p.2) ?_;simp;refine⟨by omega,?_⟩;have:=k1 [some (.val (.lst (ps.map holdD)))] ⟨_,rfl⟩;rw[VC] at this;exact this
theorem G'(W:Web n rs rk)(hw:∀p∈hs,Wf f p.2)(h1:1<=f)(hf:f<=3)(hl:hs.length<=18):∀(k:Nat) (c h:Int),Adj rs c h->mu rk (some c) h < k->coF (vO k) [webD n rs,hsD hs,howD sp,.int c,.int h]=some ((tl sp (nbs rs) hs k (some c) h).map wishD):=by
 intro k
 induction k with
 | zero=>intro c h _ hm;omega
 | succ k ih =>
  intro c h a hm;obtain⟨c0,c1,h0,jT⟩:=W.in_n a;have e1:=vJ W h0 jT;have e2:=yH (ps:=hs.filter λp=>decide (p.1=h)) (y_ (TV _ _) (by omega));have aw:=(zo (sp:=sp) (N:=nbs rs) hw k (some c) h).2;have al:=Jl (sp:=sp) (hs:=hs) W k (some c) h;have e3:=GX (sp:=sp) aw h1 hf (by omega);rw[vO];refine vc rfl λKE k1=>?_
  rw[yl];refine sK ?_;rintro K hK -;simp;refine uA hs holdD (λp=>decide (p.1=h)) holdD ?_;simp[hsD,dep,uK];refine⟨by omega,λa b _=>Gx,?_⟩;simp[e2];refine hK _ ?_;refine sK ?_;rintro K hK -;simp[e1];refine ud (J:=λi Γ=>∃x,Γ=[some (.val (webD n rs)),some (.val (hsD hs)),some (.val (howD sp)),some (.val (.int c)),some (.val (.int h)),some (.own ((ownW hs h++(((nbs rs h).take i).filter λu=>decide (some u≠some c)).flatMap (tl sp (nbs rs) hs k (some h))).map wishD)),x]) ⟨none,?_⟩ ?_ ?_
  ·simp[hsD,ownW]
  ·rintro i d Γ hd ⟨x,rfl⟩ KL aI - - -;rw[C_,Q_] at hd;obtain⟨u,hu,rfl⟩:=hd;have tk:(nbs rs h).take (i+1)=(nbs rs h).take i++[u]:=by rw[Uq,hu];rfl
   have au:=(W.nb h u).mp (RZ hu);rw[tk,SV,SN] at aI
   have cj:∀j,(ownW hs h++(((nbs rs h).take j).filter λu=>decide (some u≠some c)).flatMap (tl sp (nbs rs) hs k (some h))).length<=hs.length:=λj=>by
    refine y_ ?_ al;unfold argW;rw[v_,v_];have e:=SN (xs:=((nbs rs h).take j).filter λu=>decide (some u≠some c)) (ys:=((nbs rs h).drop j).filter λu=>decide (some u≠some c)) (f:=tl sp (nbs rs) hs k (some h));rw[←SV,Tf] at e;rw[e,v_];omega
   have b1:=cj (i+1);rw[tk,SV,SN] at b1;rw[←Tp] at aI b1;generalize ownW hs h++(((nbs rs h).take i).filter λu=>decide (some u≠some c)).flatMap (tl sp (nbs rs) hs k (some h))=L at aI b1 ⊢;refine⟨_,_,rfl,?_⟩;show wp _ [some (.val (webD n rs)),some (.val (hsD hs)),some (.val (howD sp)),some (.val (.int c)),some (.val (.int h)),some (.own (L.map wishD)),some (.val (.int u))] _;refine zx.mpr ⟨decide (u≠c),[some (.val (webD n rs)),some (.val (hsD hs)),some (.val (howD sp)),some (.val (.int c)),some (.val (.int h)),some (.own (L.map wishD)),some (.val (.int u))],by simp[tst,op2,bnd,nm,lft,eqF,dep,uK,asB];exact Gx,?_⟩;dsimp only;by_cases uc:u=c
   ·rw[if_neg (by simp[uc])];exact⟨_,_,rfl,aI _ ⟨some (.val (.int u)),by simp[uc]⟩⟩
   ·have lt:=W.mu_lt (c:=some c) (λx z=>by cases z;exact a) au (λz=>uc (by cases z;rfl));have e4:=ih h u au (by omega);simp[uc] at b1;rw[if_pos (by simp[uc])];simp[isMut,R.mut,e4];exact⟨by omega,aI _ ⟨some (.val (.int u)),by simp[uc]⟩⟩
  ·rintro Γ ⟨x,rfl⟩;refine hK _ ?_;rw[q_,Tj]
   change wp _ [some (.val (webD n rs)),some (.val (hsD hs)),some (.val (howD sp)),some (.val (.int c)),some (.val (.int h)),some (.own ((argW sp (nbs rs) hs (tl sp (nbs rs) hs k) (some c) h).map wishD)),x] _
   have tt:tl sp (nbs rs) hs (k+1) (some c) h=shortL sp (argW sp (nbs rs) hs (tl sp (nbs rs) hs k) (some c) h):=rfl;rw[tt] at k1;generalize argW sp (nbs rs) hs (tl sp (nbs rs) hs k) (some c) h=A at e3 k1 ⊢;simp[e3];exact k1 _ ⟨_,rfl⟩
end
section
variable{rk:Int->Nat}{f:Nat}{hs:HS}
theorem Gr{xs:List D}:deq (.lst xs) (.lst [])=xs.isEmpty:=by
 cases xs<;>simp[deq,deqA]
theorem Ep{x:Int}:((l.map D.int).any λd=>deq d (.int x))=decide (x∈l):=by
 by_cases h:x∈l
 ·rw[decide_eq_true h,Sg];exact⟨.int x,u_.mpr ⟨x,h,rfl⟩,by simp[deq]⟩
 ·rw[decide_eq_false h,List.any_eq_false];intro d hd z;obtain⟨y,hy,rfl⟩:=u_.mp hd;rw[uK,decide_eq_true_eq] at z;subst z;exact h hy
theorem Jj:dep (hsD hs)<=5:=by
 have:depA (hs.map holdD)<=4:=uw λd hd=>by
  obtain⟨p,_,rfl⟩:=u_.mp hd;have:=NC (ws:=[p.2]);simp only[G_,List.map_nil,dep,depA] at this;simp only[holdD,dep,depA];omega
 unfold hsD;rw[dep];omega
end
theorem N9{rk:Int->Nat}{f:Nat}{hs:HS}(W:Web n rs rk)(hw:∀p∈hs,Wf f p.2)(h1:1<=f)(hf:f<=3)(hl:hs.length<=18){c h:Int}(a:Adj rs c h):coF zN [webD n rs,hsD hs,howD sp,.int c,.int h]=some ((tl sp (nbs rs) hs 20 (some c) h).map wishD):=by
 have e1:=G' (sp:=sp) W hw h1 hf hl 20 c h a (vW W a);have e2:=ER W a;have e3:=yH (ps:=hs) (by omega)
 have e4:cvF tZ [.lst ((hs.map (·.2)).map wishD)]=some .non:=vX (n:=f) λd hd=>by
  obtain⟨w,iQ,rfl⟩:=u_.mp hd;obtain⟨p,hp,rfl⟩:=u_.mp iQ;exact⟨_,rfl,by rw[q_];exact(hw p hp).len⟩
 refine vc rfl λKE k1=>?_
 rw[BE];refine sK ?_;rintro K hK -
 change coF ua [hsD hs]=_ at e3
 generalize (hs.map (·.2)).map wishD=ws at e3 e4;simp[e3,e4];refine hK _ ?_;refine sK ?_;rintro K hK -;simp[e2];refine hK _ ?_;simp[e1];exact k1 _ ⟨_,rfl⟩
theorem B6{ts:M Bool}{QL:List D->Gm->Prop}(J:Nat->List D->Gm->Prop)(h:wp it Γ λds Γ1=>ds.length<=lim/\J 0 [] Γ1/\(∀(i:Nat) d ag a Γ2,ds[i]?=some d->J i ag Γ2->wp (az d) (a::Γ2) λ_ aM=>wp ts aM λb aP=>b=true/\wp el aP λx eG=>∃a' gS,eG=a'::gS/\J (i+1) (ag++[x]) gS)/\∀ag Γ2,J ds.length ag Γ2->QL ag Γ2):wp (compO 1 it az ts el) Γ QL:=by
 unfold compO;rw[tV];refine h.mono λds Γ1 ⟨hl,h0,hs,hq⟩=>?_
 rw[if_pos hl]
 have bq:∀(es:List D) (i:Nat) (ag:List D) (a:Option R) (Γ2:Gm),ds.drop i=es->i<=ds.length->J i ag Γ2->∃r a' de,compM az ts el es (a::Γ2)=some (r,a'::de)/\J ds.length (ag++r) de:=by
  intro es
  induction es with
  | nil =>
   intro i ag a Γ2 hd hi hj
   have:i=ds.length:=by
    have:=Wr.mp hd;omega
   subst this;exact⟨[],a,Γ2,rfl,by simpa using hj⟩
  | cons d es ih =>
   intro i ag a Γ2 hd hi hj
   have bD:i < ds.length:=by
    rcases UC i ds.length with z | z
    ·exact z
    ·rw[UB z] at hd;cases hd
   have e1:ds[i]?=some d:=by
    have:=R7 bD;rw[hd] at this;cases this;exact g_ bD
   have e2:ds.drop (i+1)=es:=by
    have:=R7 bD;rw[hd] at this;injection this with _ q
    exact q.symm
   obtain⟨_,aM,g1,b,aP,g2,rfl,x,eG,g3,a',gS,rfl,bE⟩:=hs i d ag a Γ2 e1 hj;obtain⟨r,ra,de,g4,oH⟩:=ih (i+1) (ag++[x]) a' gS e2 bD bE;refine⟨x::r,ra,de,?_,by simpa using oH⟩;rw[compM];unfold bnd;rw[g1];dsimp only;rw[g2];dsimp only;rw[if_pos rfl];rw[g3];dsimp only;rw[g4];rfl
 obtain⟨r,a',de,e,hj⟩:=bq ds 0 [] none Γ1 rfl (Sh _) h0;refine⟨r,de,?_,hq r de (by simpa using hj)⟩;have e':compM az ts el ds (F_ 1 none++Γ1)=some (r,a'::de):=e;unfold inC;rw[e'];rfl
@[simp ↓] theorem Qz{Q:D->Gm->Prop}:wp (popAt i t) Γ Q↔isMut Γ i=true/\wp t Γ λas iZ=>wp (look i) iZ λl Γ1=>wp (lft (pkF as l)) Γ1 λd Γ2=>wp (wr i (ersF as)) Γ2 λ_ aM=>Q d aM:=by
 simp only[popAt,vY,tV,wE]
theorem Nw{xs:List Int}{x:Nat}(h:x < xs.length)(l:xs.length < 1000):pkF [.int x] (.lst (xs.map D.int))=some (.int xs[x]):=by
 unfold pkF;dsimp only;rw[if_pos ⟨by omega,by omega⟩,T4,C_,g_ h];rfl
theorem P7{xs:List Int}{x:Nat}:ersF [.int x] (xs.map D.int)=some ((xs.eraseIdx x).map D.int):=by
 unfold ersF;simp only[T4]
 congr 1
 induction xs generalizing x with
 | nil=>rfl
 | cons y xs ih=>cases x with
  | zero=>rfl
  | succ x=>simp only[G_,Ur,G_];rw[ih]
theorem IY{xs:List Int}{x:Nat}(h:x < xs.length):(xs[x]::xs.eraseIdx x).Perm xs:=by
 induction xs generalizing x with
 | nil=>cases h
 | cons y xs ih =>
  cases x with
  | zero=>exact Wx _
  | succ x =>
   have:=ih (x:=x) (by simpa using h);simp only[V5,Ur];exact(swap y _ _).trans (this.cons y)
noncomputable def rngZ(n:Nat):List Int:=(Sx n).map λk:Nat=>(k:Int)
theorem Gd(n:Nat):rngD 0 n=(rngZ n).map D.int:=by
 unfold rngD rngZ;rw[VC];refine List.map_congr_left λk _=>?_
 simp
theorem Mx(n:Nat):(rngZ n).Nodup:=zv List.nodup_range λx _ y _ e=>by omega
theorem xH{a b:Int}:mkR a b=(min a b,max a b):=by
 unfold mkR;refine VP ?_ ?_
 ·simp only;split<;>omega
 ·simp only;split<;>omega
theorem Mw{c:List D}{Q:R->List D->Prop}(hc:PotOk c)(m1:1<=most)(m7:most<=7)(k:∀n rs rk c',Web n rs rk->PotOk c'->Q (.val (webD n rs)) c'):wpB yu c [.int most] Q:=by
 refine Aj rfl λKE hE _=>?_
 rw[BX];refine sK ?_;rintro K hK -;simp[isMut,R.mut];refine tP hc (by omega) (by omega) λm0 c2 gN ij hc=>?_
 obtain⟨m,hm⟩:∃m:Nat,1+m0=m:=⟨(1+m0).toNat,by omega⟩;simp[hm];refine hK _ ?_;refine sK ?_;rintro K hK -;simp[isMut,R.mut];refine tP hc (by omega) (by omega) λway c3 sx sy hc=>?_
 simp;refine hK _ ?_;refine sK ?_;rintro K hK -;simp;refine⟨by omega,hK _ ?_⟩;rw[Gd];refine sK ?_;rintro K hK -;simp;obtain⟨J,hJ⟩:∃J:Nat->List D->Gm->Prop,∀i ag Γ,J i ag Γ↔∃(c:List D) (os ao:List Int),PotOk c/\ag=os.map D.int/\os.length=i/\(os++ao).Perm (rngZ m)/\Γ=[some (.bor c),some (.val (.int most)),some (.val (.int m)),some (.val (.int way)),some (.own (ao.map D.int)),none,none,none,none,none]:=⟨_,λ_ _ _=>Iff.rfl⟩;have zl:(rngZ m).length=m:=by simp[rngZ]
 refine B6 J ?_;simp;refine⟨by omega,by omega,(hJ _ _ _).mpr ⟨c3,[],rngZ m,hc,rfl,rfl,by simp,rfl⟩,?_,?_⟩
 ·intro i d ag Γ2 hd j;obtain⟨c4,os,ao,hc,rfl,hi,pm,rfl⟩:=(hJ _ _ _).mp j
  have cC:i < m:=by
   have:=(o_.mp hd).1;simpa using this
  have ln:=pm.length_eq;rw[v_,zl] at ln;simp[isMut,R.mut];refine tP hc (by omega) (by omega) λx c5 jU md hc=>?_
  obtain⟨x,rfl⟩:=Th jU;have e1:=Nw (xs:=ao) (x:=x) (by omega) (by omega);have e2:=P7 (xs:=ao) (x:=x);simp[e1,e2];refine⟨_,_,⟨rfl,rfl⟩,(hJ _ _ _).mpr ⟨c5,os++[ao[x]],ao.eraseIdx x,hc,by simp,by simp[hi],?_,rfl⟩⟩;rw[Tp];exact((IY (xs:=ao) (x:=x) (by omega)).append_left os).trans pm
 ·intro ag Γ2 j;obtain⟨c4,os,ao,hc,rfl,hi,pm,rfl⟩:=(hJ _ _ _).mp j;have ln:=pm.length_eq;rw[v_,zl] at ln;have:ao=[]:=Sw.mp (by omega);subst this;rw[SO] at pm;have nd:os.Nodup:=pm.symm.nodup (Mx m)
  have rg:∀x∈os,0<=x/\x < m:=λx hx=>by
   rw[pm.mem_iff] at hx;obtain⟨k,hk,rfl⟩:=u_.mp hx;have:=SY.mp hk;omega
  have hl:os.length=m:=by omega
  simp;refine hK _ ?_
  have oJ:∀j,j < m->atI (os.map D.int) ((j:Nat):Int)=some (.int (atO os j)):=λj hj=>by
   rw[DL.uV,Bw (by omega)];simp[hl,hj]
  refine sK ?_;rintro K hK -;refine⟨_,_,rfl,hK _ ?_⟩;show wp _ [some (.bor c4),some (.val (.int most)),some (.val (.int m)),some (.val (.int way)),some (.own []),some (.val (.lst (os.map D.int))),some (.own []),none,none,none] _;refine sK ?_;rintro K hK -;simp;refine⟨by omega,?_⟩;refine ud (J:=λi Γ=>∃(c:List D) (L:List (Nat×Nat)) (x7 x8 x9:Option R),PotOk c/\LOk (i+1) L/\L.length<=i/\Γ=[some (.bor c),some (.val (.int most)),some (.val (.int m)),some (.val (.int way)),some (.own []),some (.val (.lst (os.map D.int))),some (.own ((roadsO os L).map pairD)),x7,x8,x9]) ⟨c4,[],none,none,none,hc,⟨WO.nil,by simp⟩,w_ _,rfl⟩ ?_ ?_
  ·rintro i d Γ hd ⟨c,L,x7,x8,x9,hc,ok,ll,rfl⟩ KL aI - - -;obtain⟨rfl,hi⟩:=yk hd;have up:LOk (i+1+1) L:=⟨ok.inc,λq hq=>by have:=ok.ok q hq;omega⟩;obtain⟨kk,rb⟩:∃kk:Nat,(1:Int)+i=kk:=⟨1+i,by omega⟩;rw[rb];have ln:(roadsO os L).length=L.length:=by simp[roadsO]
   simp;refine sK ?_;rintro K2 dE -;simp[isMut,R.mut];refine tP hc (by omega) (by omega) λj1 c5 rc rD hc=>?_
   simp;refine tP hc (by omega) (by omega) λj2 c6 rf rE hc=>?_
   have ix:∃j:Nat,j < kk/\atI [D.int ((kk:Int) - 1),D.int 0,D.int j1,D.int j2] way=some (.int j):=by
    have:way=0\/way=1\/way=2\/way=3:=by omega
    rcases this with rfl | rfl | rfl | rfl
    ·exact⟨kk - 1,by omega,by rw[show((kk - 1:Nat):Int)=(kk:Int) - 1 by omega];rfl⟩
    ·exact⟨0,by omega,rfl⟩
    ·obtain⟨j1,rfl⟩:=Th rc;exact⟨j1,by omega,rfl⟩
    ·obtain⟨j2,rfl⟩:=Th rf;exact⟨j2,by omega,rfl⟩
   obtain⟨j,hj,ix⟩:=ix;simp[ix];refine dE _ ?_;clear dE;refine sK ?_;rintro K2 dE -;have a1:=oJ kk (by omega);have a2:=oJ j (by omega);simp[a1,a2];refine dE _ ?_;clear dE
   have put:∀c7,PotOk c7->wp (appS 6 (nm 9)) [some (.bor c7),some (.val (.int most)),some (.val (.int m)),some (.val (.int way)),some (.own []),some (.val (.lst (os.map D.int))),some (.own ((roadsO os L).map pairD)),some (.val (.int kk)),some (.val (.int j)),some (.val (.tup [.int (min (atO os kk) (atO os j)),.int (max (atO os kk) (atO os j))]))] KL:=λc7 hc=>by
    simp[isMut,R.mut];refine⟨by omega,aI _ ⟨c7,L++[(kk,j)],some (.val (.int kk)),some (.val (.int j)),some (.val (.tup [.int (min (atO os kk) (atO os j)),.int (max (atO os kk) (atO os j))])),hc,⟨?_,?_⟩,by simp;omega,?_⟩⟩
    ·rw[List.pairwise_append];refine⟨ok.inc,by simp,λp hp q hq=>?_⟩;rw[s_.mp hq];have:=ok.ok p hp;simp only;omega
    ·intro q hq
     rcases P_.mp hq with hq | hq
     ·exact up.ok q hq
     ·rw[s_.mp hq];simp only;omega
    ·simp[roadsO,xH,pairD]
   by_cases w3:way < 3
   ·simp[w3,isMut,R.mut];simpa[isMut,R.mut] using put _ hc
   ·simp[w3,isMut,R.mut];refine tP hc (by omega) (by omega) λz c7 nU nV hc=>?_
    simp;split
    ·simpa[isMut,R.mut] using put _ hc
    ·exact aI _ ⟨c7,L,_,_,_,hc,up,by omega,rfl⟩
  ·rintro Γ ⟨c,L,x7,x8,x9,hc,ok,ll,rfl⟩;refine hK _ ?_;rw[Hv] at ok ll;have mm:m - 1+1=m:=by omega
   rw[mm] at ok;obtain⟨rs,e1,hp,hs⟩:=G7 (ps:=roadsO os L) (by simp[roadsO];omega);simp[e1];exact hE _ _ _ ⟨_,rfl⟩ (k m rs _ c (Ml hl nd rg ok (by omega) (by omega) hp) hc)
theorem Mg{f:Nat}{ws:WS}(aZ:∀u∈ws,Wf f u)(hl:l.length=f):(∃w∈shortL sp ws,hasB w l=true)↔∃w∈ws,hasB w l=true:=by
 constructor
 ·rintro⟨w,hw,h⟩;exact⟨w,Dm hw,h⟩
 ·rintro⟨w,hw,h⟩;obtain⟨u,hu,c⟩:=(va ws).over aZ hw;have lu:=(aZ u ((va ws).sub hu)).len;have lw:=(aZ w hw).len;have oK:∃u∈roofL ws,hasB u l=true:=⟨u,hu,DE (by rw[lu,lw]) c h⟩;unfold shortL;split
  ·exact Gn hl _ _ (λp hp=>aZ p ((va ws).sub hp)) oK
  ·exact oK
noncomputable def wants(hs:HS)(l:List Int)(v:Int):Bool:=hs.any λp=>decide (p.1=v)&&hasB p.2 l
theorem Fd{hs:HS}{v:Int}:(∃w∈ownW hs v,hasB w l=true)↔wants hs l v=true:=by
 unfold wants ownW;rw[Sg];constructor
 ·rintro⟨w,hw,h⟩;obtain⟨p,hp,rfl⟩:=u_.mp hw;rw[H_] at hp;exact⟨p,hp.1,by rw[hp.2,h];rfl⟩
 ·rintro⟨p,hp,h⟩;rw[J_] at h;exact⟨p.2,u_.mpr ⟨p,H_.mpr ⟨hp,h.1⟩,rfl⟩,h.2⟩
theorem PX{α β:Type}{f g:α->List β}{l:List α}(h:∀x∈l,f x=g x):l.flatMap f=l.flatMap g:=by
 induction l with
 | nil=>rfl
 | cons x l ih=>rw[R9,R9,h x m_,ih λy hy=>h y (j_ _ hy)]
theorem Ng{α β:Type}{f g:α->List β}(h:∀x,(f x).Sublist (g x)){l m:List α}(s:l.Sublist m):(l.flatMap f).Sublist (m.flatMap g):=by
 induction s with
 | slnil=>exact UI _
 | cons a _ ih=>rw[R9];exact ih.trans (List.sublist_append_right _ _)
 | cons_cons a _ ih=>rw[R9,R9];exact(h a).append ih
section
variable{rk:Int->Nat}{f:Nat}{hs:HS}
theorem Em(W:Web n rs rk)(hw:∀p∈hs,Wf f p.2)(hl:l.length=f):∀(k:Nat) (c:Option Int) (h:Int),(∀x,c=some x->Adj rs x h)->mu rk c h < k->((∃w∈tl sp (nbs rs) hs k c h,hasB w l=true)↔∃v∈Wl (nbs rs) k c h,wants hs l v=true)
 | 0,_,_,_,hm=>by omega
 | k+1,c,h,hc,hm=>by
  rw[tl,Mg (zo (sp:=sp) (N:=nbs rs) hw k c h).2 hl];unfold argW
  have go:∀u,u∈nbs rs h->some u≠c->((∃w∈tl sp (nbs rs) hs k (some h) u,hasB w l=true)↔∃v∈Wl (nbs rs) k (some h) u,wants hs l v=true):=λu hu uc=>by
   have au:=(W.nb h u).mp hu;have lt:=W.mu_lt hc au uc;exact Em W hw hl k (some h) u (λx z=>by cases z;exact au) (by omega)
  constructor
  ·rintro⟨w,iQ,hb⟩
   rcases P_.mp iQ with m | m
   ·exact⟨h,zM,Fd.mp ⟨w,m,hb⟩⟩
   ·obtain⟨u,hu,m⟩:=SB.mp m;rw[H_,decide_eq_true_eq] at hu;obtain⟨v,hv,z⟩:=(go u hu.1 hu.2).mp ⟨w,m,hb⟩;exact⟨v,u8.mpr (.inr ⟨u,hu.1,hu.2,hv⟩),z⟩
  ·rintro⟨v,hv,z⟩
   rcases u8.mp hv with rfl | ⟨u,hu,uc,hv⟩
   ·obtain⟨w,m,hb⟩:=Fd.mpr z;exact⟨w,Sk _ m,hb⟩
   ·obtain⟨w,m,hb⟩:=(go u hu uc).mpr ⟨v,hv,z⟩;exact⟨w,M_ _ (SB.mpr ⟨u,H_.mpr ⟨hu,by simpa using uc⟩,m⟩),hb⟩
noncomputable def ldB(rs:List (Int×Int))(hs:HS)(l:List Int)(c h:Int):Bool:=(Wl (nbs rs) 20 (some c) h).any (wants hs l)
theorem Ew(W:Web n rs rk)(hw:∀p∈hs,Wf f p.2)(hl:l.length=f){c h:Int}(a:Adj rs c h):(!((tl sp (nbs rs) hs 20 (some c) h).filter λw=>hasB w l).isEmpty)=ldB rs hs l c h:=by
 have:=Em (sp:=sp) W hw hl 20 (some c) h (λx z=>by cases z;exact a) (vW W a);rw[Ts];unfold ldB;rw[Sg,←this,UD,List.isEmpty_eq_false_iff_exists_mem];simp only[H_]
noncomputable def RO(rs:List (Int×Int))(hs:HS)(l:List Int):Nat->Option Int->Int->List (Int×Int)
 | 0,_,_=>[]
 | k+1,c,h=>((nbs rs h).filter λu=>decide (some u≠c)&&ldB rs hs l h u).flatMap λu=>(h,u)::RO rs hs l k (some h) u
theorem Cg:∀(k:Nat) (c:Option Int) (h:Int),(h::(RO rs hs l k c h).map (·.2)).Sublist (Wl (nbs rs) k c h)
 | 0,_,_=>UI _
 | k+1,c,h=>by
  rw[RO,Wl,VY];refine List.Sublist.cons_cons _ (Ng (λu=>?_) ?_)
  ·rw[G_];exact Cg k (some h) u
  ·have:(nbs rs h).filter (λu=>decide (some u≠c)&&ldB rs hs l h u)=((nbs rs h).filter λu=>decide (some u≠c)).filter λu=>ldB rs hs l h u:=by
    rw[List.filter_filter];exact List.filter_congr λu _=>Bool.and_comm _ _
   rw[this];exact Vs
theorem CG(W:Web n rs rk){c:Option Int}{h:Int}(h0:0<=h)(h1:h < n):(RO rs hs l k c h).length+1<=8:=by
 have:=(Cg (rs:=rs) (hs:=hs) (l:=l) k c h).length_le;have:=W.wl_len k c h h0 h1;have:=W.n8;rw[R8,q_] at *;omega
end
section
variable{rk:Int->Nat}{f:Nat}{hs:HS}
theorem DF(W:Web n rs rk)(hw:∀p∈hs,Wf f p.2)(h1:1<=f)(hf:f<=3)(hl:hs.length<=18)(ll:l.length=f){c h:Int}(a:Adj rs c h):coF wP [webD n rs,hsD hs,howD sp,.int c,.int h,letD l]=some (((tl sp (nbs rs) hs 20 (some c) h).filter λw=>hasB w l).map wishD):=by
 have e1:=G' (sp:=sp) W hw h1 hf hl 20 c h a (vW W a);have tw:=(zo (sp:=sp) (N:=nbs rs) hw 20 (some c) h).1;have rF:(tl sp (nbs rs) hs 20 (some c) h).length<=hs.length:=y_ (AZ 20 (some c) h) (Eb (W.nodup W.nb W.nb_nodup _ _ _));generalize tl sp (nbs rs) hs 20 (some c) h=T at *;have hT:∀w∈T,cvF vF [wishD w,letD l]=some (.bl (hasB w l)):=λw m=>Cv (by rw[(tw w m).len,ll]) (by rw[(tw w m).len];omega)
 refine vc rfl λKE k1=>?_
 rw[BQ];simp;refine uA T wishD (λw=>hasB w l) wishD ?_;simp[e1];refine⟨by omega,λw m=>?_,k1 _ ⟨_,rfl⟩⟩;simp[hT w m]
theorem NV(W:Web n rs rk)(hw:∀p∈hs,Wf f p.2)(h1:1<=f)(hf:f<=3)(hl:hs.length<=18)(ll:l.length=f):∀(k:Nat) (c:Option Int) (h:Int),0<=h->h < n->(∀x,c=some x->Adj rs x h)->mu rk c h < k->cvF (vw k) [webD n rs,hsD hs,howD sp,cameD c,.int h,letD l]=some (.lst ((RO rs hs l k c h).map pairD)):=by
 intro k
 induction k with
 | zero=>intro c h _ _ _ hm;omega
 | succ k ih =>
  intro c h h0 jT hc hm;have e1:=vJ W h0 jT;have kn:=CG (hs:=hs) (l:=l) (k:=k+1) (c:=c) W h0 jT;rw[RO] at kn ⊢;rw[vw];refine ug rfl λKE k1 _=>?_
  rw[yJ];refine sK ?_;rintro K hK -;refine⟨_,_,rfl,hK _ ?_⟩;show wp _ [some (.val (webD n rs)),some (.val (hsD hs)),some (.val (howD sp)),some (.val (cameD c)),some (.val (.int h)),some (.val (letD l)),some (.own []),none] _;refine sK ?_;rintro K hK -;simp[e1];refine ud (J:=λi Γ=>∃x,Γ=[some (.val (webD n rs)),some (.val (hsD hs)),some (.val (howD sp)),some (.val (cameD c)),some (.val (.int h)),some (.val (letD l)),some (.own (((((nbs rs h).take i).filter λu=>decide (some u≠c)&&ldB rs hs l h u).flatMap λu=>(h,u)::RO rs hs l k (some h) u).map pairD)),x]) ⟨none,by simp⟩ ?_ ?_
  ·rintro i d Γ hd ⟨x,rfl⟩ KL aI - - -;rw[C_,Q_] at hd;obtain⟨u,hu,rfl⟩:=hd;have tk:(nbs rs h).take (i+1)=(nbs rs h).take i++[u]:=by rw[Uq,hu];rfl
   have au:=(W.nb h u).mp (RZ hu)
   have cj:∀j,((((nbs rs h).take j).filter λu=>decide (some u≠c)&&ldB rs hs l h u).flatMap λu=>(h,u)::RO rs hs l k (some h) u).length+1<=8:=λj=>by
    have e:=SN (xs:=((nbs rs h).take j).filter λu=>decide (some u≠c)&&ldB rs hs l h u) (ys:=((nbs rs h).drop j).filter λu=>decide (some u≠c)&&ldB rs hs l h u) (f:=λu=>(h,u)::RO rs hs l k (some h) u);rw[←SV,Tf] at e;rw[e,v_] at kn;omega
   have b1:=cj (i+1);rw[tk,SV,SN] at aI b1;rw[v_] at b1;generalize (((nbs rs h).take i).filter λu=>decide (some u≠c)&&ldB rs hs l h u).flatMap (λu=>(h,u)::RO rs hs l k (some h) u)=L at aI b1 ⊢;have e2:=DF (sp:=sp) W hw h1 hf hl ll au;have e3:=Ew (sp:=sp) W hw ll au;generalize (tl sp (nbs rs) hs 20 (some h) u).filter (λw=>hasB w l)=T at e2 e3;refine⟨_,_,rfl,?_⟩;show wp _ [some (.val (webD n rs)),some (.val (hsD hs)),some (.val (howD sp)),some (.val (cameD c)),some (.val (.int h)),some (.val (letD l)),some (.own (L.map pairD)),some (.val (.int u))] _;have dc:dep (cameD c)<=100:=by cases c<;>simp[cameD,dep]
   refine zx.mpr ⟨decide (some u≠c)&&ldB rs hs l h u,[some (.val (webD n rs)),some (.val (hsD hs)),some (.val (howD sp)),some (.val (cameD c)),some (.val (.int h)),some (.val (letD l)),some (.own (L.map pairD)),some (.val (.int u))],?_,?_⟩
   ·by_cases uc:some u=c
    ·simp[andT,tst,op2,bnd,nm,lft,eqF,dep,dc,vL,asB,uc,ret]
    ·rw[←e3];cases T with
     | nil=>simp[andT,tst,op2,bnd,nm,lft,eqF,dep,dc,vL,asB,uc,ret,fn1,consA,nilA,frz,e2,lenF,seqI]
     | cons w T=>simp[andT,tst,op2,bnd,nm,lft,eqF,dep,dc,vL,asB,uc,ret,fn1,consA,nilA,frz,e2,lenF,seqI]
   ·dsimp only;by_cases cc:(decide (some u≠c)&&ldB rs hs l h u)=true
    ·rw[if_pos cc];rw[Us (by exact cc)] at aI b1;rw[J_,decide_eq_true_eq] at cc;have lt:=W.mu_lt hc au cc.1;have iu:=W.in_n au;have e4:=ih (some h) u iu.2.2.1 iu.2.2.2 (λx z=>by cases z;exact au) (by omega);have e4:cvF (vw k) [webD n rs,hsD hs,howD sp,.int h,.int u,letD l]=some (.lst ((RO rs hs l k (some h) u).map pairD)):=e4;simp at b1;refine sK ?_;rintro K hK -;simp[isMut,R.mut];refine⟨by omega,hK _ ?_⟩;simp[isMut,R.mut,e4];exact⟨by omega,aI _ ⟨some (.val (.int u)),by simp[pairD]⟩⟩
    ·rw[if_neg cc];rw[VZ (by exact cc)] at aI;exact⟨_,_,rfl,aI _ ⟨some (.val (.int u)),by simp⟩⟩
  ·rintro Γ ⟨x,rfl⟩;refine hK _ ?_;rw[q_,Tj];generalize List.flatMap _ _=L at *;simp;exact k1 _ ⟨_,rfl⟩
end
theorem CJ{α:Type}{a b:M α}{Q:α->Gm->Prop}(h:wp a Γ Q):wp (altM a b) Γ Q:=by
 obtain⟨x,ae,e,q⟩:=h;exact⟨x,ae,by unfold altM;rw[e],q⟩
theorem E4{α:Type}{a b:M α}{Q:α->Gm->Prop}(e:a Γ=none)(h:wp b Γ Q):wp (altM a b) Γ Q:=by
 obtain⟨x,ae,e',q⟩:=h;exact⟨x,ae,by unfold altM;rw[e];exact e',q⟩
structure MixN(g:List R->Option (R×List R))(ds:List D):Prop where
 co:coF g ds=none
 cv:cvF g ds=some .non
theorem xL{g:List R->Option (R×List R)}{o:Option (List D)}(h:wpF g (ds.map .val) λr _=>r=(match o with | some l=>R.own l | none=>R.val .non)):(∀l,o=some l->coF g ds=some l)/\(o=none->MixN g ds):=by
 obtain⟨r,bi,e,hr⟩:=h;refine⟨λl z=>?_,λz=>⟨?_,?_⟩⟩
 ·subst z;subst hr;unfold coF;rw[e]
 ·subst z;subst hr;unfold coF;rw[e]
 ·subst z;subst hr;unfold cvF;rw[e]
section
variable{g:List R->Option (R×List R)}{l:List D}
theorem vd{α:Type}{F:List D->Option α}(ht:t Γ=some (ds,Γ1))(e:F ds=none):fn1 F t Γ=none:=by
 unfold fn1 bnd;rw[ht];show lft (F ds) Γ1=none;rw[e];rfl
theorem ur{α:Type}{F:List D->Option α}{x:α}(ht:t Γ=some (ds,Γ1))(e:F ds=some x):fn1 F t Γ=some (x,Γ1):=by
 unfold fn1 bnd;rw[ht];show lft (F ds) Γ1=_;rw[e];rfl
theorem F7{α β:Type}{m:M α}{f:α->M β}(h:m Γ=none):bnd m f Γ=none:=by unfold bnd;rw[h]
theorem tR{α β:Type}{m:M α}{f:α->M β}{x:α}(h:m Γ=some (x,Γ1)):bnd m f Γ=f x Γ1:=by unfold bnd;rw[h]
theorem AU{Q:D->Gm->Prop}(ht:t Γ=some (ds,Γ1))(e:coF g ds=some l)(q:Q (.lst l) Γ1):wp (altM (frz (fn1 (coF g) t)) (fn1 (cvF g) t)) Γ Q:=
 CJ ⟨_,_,by unfold frz;rw[tR (ur ht e)];rfl,q⟩
theorem DU{Q:D->Gm->Prop}(ht:t Γ=some (ds,Γ1))(e:MixN g ds)(q:Q .non Γ1):wp (altM (frz (fn1 (coF g) t)) (fn1 (cvF g) t)) Γ Q:=
 E4 (by unfold frz;exact F7 (vd ht e.co)) ⟨_,_,ur ht e.cv,q⟩
theorem LI{Q:Fl->Gm->Prop}(ht:t Γ=some (ds,Γ1))(e:coF g ds=some l)(q:Q (.rt (.own l)) Γ1):wp (altM (retO (fn1 (coF g) t)) (retS (fn1 (cvF g) t))) Γ Q:=
 CJ ⟨_,_,by unfold retO;rw[tR (ur ht e)];rfl,q⟩
theorem MB{Q:Fl->Gm->Prop}(ht:t Γ=some (ds,Γ1))(e:MixN g ds)(q:Q (.rt (.val .non)) Γ1):wp (altM (retO (fn1 (coF g) t)) (retS (fn1 (cvF g) t))) Γ Q:=
 E4 (by unfold retO;exact F7 (vd ht e.co)) ⟨_,_,by unfold retS;rw[tR (ur ht e.cv)];rfl,q⟩
end
noncomputable def Wy(N:Int->List Int):Nat->Option Int->Int->Int->Option (List Int)
 | 0,_,_,_=>none
 | k+1,c,h,t=>if h=t then some [h] else(((N h).filter λu=>decide (some u≠c)).findSome? λu=>Wy N k (some h) u t).map (h::·)
theorem Bz{α β:Type}{f:α->Option β}{r:β}{x:α}:∀{l:List α},x∈l->f x=some r->(∀y∈l,(f y).isSome=true->y=x)->l.findSome? f=some r
 | [],hx,_,_=>by cases hx
 | y::l,hx,hf,hu=>by
  rw[WJ];cases e:f y with
  | some r' =>
   have:=hu y m_ (by rw[e];rfl);subst this;rw[e] at hf;exact hf
  | none =>
   refine Bz ?_ hf λz hz=>hu z (j_ _ hz)
   rcases B_.mp hx with rfl | hx
   ·rw[e] at hf;cases hf
   ·exact hx
section
variable{rk:Int->Nat}{N:Int->List Int}
theorem vk:∀{k:Nat}{c:Option Int}{h t:Int}{p:List Int},Wy N k c h t=some p->t∈Wl N k c h/\p.length<=k
 | 0,_,_,_,_,e=>by cases e
 | k+1,c,h,t,p,e=>by
  rw[Wy] at e;by_cases ht:h=t
  ·rw[if_pos ht] at e;cases e;subst ht;exact⟨zM,by simp⟩
  ·rw[if_neg ht,Q_] at e;obtain⟨q,e,rfl⟩:=e;obtain⟨u,hu,e⟩:=S7 e;rw[H_,decide_eq_true_eq] at hu;have:=vk e;exact⟨u8.mpr (.inr ⟨u,hu.1,hu.2,this.1⟩),by simp;exact this.2⟩
theorem Web.ext(W:Web n rs rk)(hN:∀v u,u∈N v↔Adj rs v u):∀(k:Nat) (c:Option Int) (h v u:Int) (p:List Int),(∀x,c=some x->Adj rs x h)->mu rk c h < k->Wy N k c h v=some p->u∈N v->some u≠c->u∉p->Wy N k c h u=some (p++[u])
 | 0,_,_,_,_,_,_,_,e,_,_,_=>by cases e
 | k+1,c,h,v,u,p,hc,hm,e,hu,uc,up=>by
  have oM:∀x y,x∈N h->y∈N h->u∈Wl N k (some h) x->u∈Wl N k (some h) y->x=y:=λx y hx hy=>W.apart hN ((hN h x).mp hx) ((hN h y).mp hy)
  rw[Wy] at e;by_cases hv:h=v
  ·rw[if_pos hv] at e;cases e;subst hv;have uh:¬h=u:=λz=>up (by rw[z];simp)
   have au:=(hN h u).mp hu;have lt:=W.mu_lt hc au uc;rw[Wy,if_neg uh]
   have one:Wy N k (some h) u u=some [u]:=by
    cases k with
    | zero=>omega
    | succ k=>rw[Wy,if_pos rfl]
   have:(((N h).filter λu=>decide (some u≠c)).findSome? λx=>Wy N k (some h) x u)=some [u]:=Bz (x:=u) (H_.mpr ⟨hu,by simpa using uc⟩) one λy hy s=>by
    obtain⟨q,s⟩:=TY.mp s;exact oM y u (H_.mp hy).1 hu (vk s).1 zM
   rw[this];rfl
  ·rw[if_neg hv,Q_] at e;obtain⟨q,e,rfl⟩:=e;obtain⟨x,hx,e⟩:=S7 e;have dO:=hx;rw[H_,decide_eq_true_eq] at dO;have ax:=(hN h x).mp dO.1;have lt:=W.mu_lt hc ax dO.2;have uh:u≠h:=λz=>up (by rw[z];simp)
   have uq:u∉q:=λz=>up (j_ _ z)
   have ih:=W.ext hN k (some h) x v u q (λy z=>by cases z;exact ax) (by omega) e hu (λz=>uh (by cases z;rfl)) uq;rw[Wy,if_neg (λz=>uh z.symm)]
   have:(((N h).filter λu=>decide (some u≠c)).findSome? λx=>Wy N k (some h) x u)=some (q++[u]):=Bz hx ih λy hy s=>by
    obtain⟨q,s⟩:=TY.mp s;exact oM y x (H_.mp hy).1 dO.1 (vk s).1 (vk ih).1
   rw[this];rfl
end
noncomputable def hAt(hs:HS)(k:Nat):Int×List (Int×Int):=hs.getD k (0,[])
theorem Ap{hs:HS}(h:k < hs.length):hs[k]?=some (hAt hs k):=by
 unfold hAt;rw[h_,g_ h];rfl
noncomputable def gvK(hs:HS)(P:Int×List (Int×Int)->Bool):List D:=((Sx hs.length).filter λk=>P (hAt hs k)).map λk:Nat=>D.int k
theorem FS:∀(hs:HS) (n:Nat),numD n (hs.map holdD)=(hs.zipIdx n).map λq=>D.tup [.int q.2,holdD q.1]
 | [],n=>rfl
 | p::hs,n=>by
  rw[G_,numD,FS hs (n+1),VS,G_]
theorem Oj{hs:HS}:hs.zipIdx 0=(Sx hs.length).map λk=>(hAt hs k,k):=by
 refine List.ext_getElem? λi=>?_
 rw[List.getElem?_zipIdx,C_];by_cases h:i < hs.length
 ·rw[Ap h,List.getElem?_range h];simp
 ·rw[TQ (by omega),TQ (by simpa using h)];rfl
theorem Lq{hs:HS}{P:Int×List (Int×Int)->Bool}:((hs.zipIdx 0).filter λq=>P q.1).map (λq=>D.int q.2)=gvK hs P:=by
 rw[Oj,List.filter_map,VC];rfl
section
variable{rk:Int->Nat}{f:Nat}{hs:HS}
noncomputable def gvL(hs:HS)(l:List Int)(S:List Int):List D:=gvK hs λp=>decide (p.1∈S)&&hasB p.2 l
end
section
variable{rk:Int->Nat}{f:Nat}{hs:HS}
theorem Bk(W:Web n rs rk)(hw:∀p∈hs,Wf f p.2)(h1:1<=f)(hf:f<=3)(hl:hs.length<=18)(ll:l.length=f){h:Int}(h0:0<=h)(hn:h < n):cvF wj [webD n rs,hsD hs,howD sp,.int h,letD l]=some (.tup [.lst ((sortP (RO rs hs l 20 none h)).map pairD),.lst (gvL hs l (h::(sortP (RO rs hs l 20 none h)).map (·.2)))]):=by
 have e1:=yH (ps:=hs) (by omega)
 have e2:cvF tZ [.lst (letD l::(hs.map (·.2)).map wishD)]=some .non:=vX (n:=f) λd hd=>by
  rcases B_.mp hd with rfl | hd
  ·exact⟨_,rfl,by rw[q_];exact ll⟩
  ·obtain⟨w,iQ,rfl⟩:=u_.mp hd;obtain⟨p,hp,rfl⟩:=u_.mp iQ;exact⟨_,rfl,by rw[q_];exact(hw p hp).len⟩
 have e3:=vQ (rs:=rs) h0 hn;have e4:=NV (sp:=sp) W hw h1 hf hl ll 20 none h h0 hn (λx z=>by cases z) (by simp[mu]);have e4:cvF (vw 20) [webD n rs,hsD hs,howD sp,.non,.int h,letD l]=some (.lst ((RO rs hs l 20 none h).map pairD)):=e4;have l8:=CG (hs:=hs) (l:=l) (k:=20) (c:=none) W h0 hn;obtain⟨S,e5,pS,hS⟩:=G7 (ps:=RO rs hs l 20 none h) (by omega);rw[←hS];have lS:=pS.length_eq
 have hT:∀q:(Int×List (Int×Int))×Nat,q∈hs.zipIdx 0->cvF vF [wishD q.1.2,letD l]=some (.bl (hasB q.1.2 l)):=λq m=>by
  have:=List.fst_mem_of_mem_zipIdx m;exact Cv (by rw[(hw _ this).len,ll]) (by rw[(hw _ this).len];omega)
 refine ug rfl λKE k1 _=>?_
 rw[BZ];refine sK ?_;rintro K hK -
 change coF ua [hsD hs]=_ at e1
 have lw:((hs.map (·.2)).map wishD).length=hs.length:=by simp
 generalize (hs.map (·.2)).map wishD=ws at e1 e2 lw;simp[e1,e2];refine⟨by omega,hK _ ?_⟩;refine sK ?_;rintro K hK -;simp[e3];refine hK _ ?_;refine sK ?_;rintro K hK -;simp[e4,e5];refine hK _ ?_;refine sK ?_;rintro K hK -;simp;refine uA S pairD (λ_=>true) (λp=>.int p.2) ?_;simp;refine⟨by omega,by omega,hK _ ?_⟩;have eR:D.int h::S.map (λp=>D.int p.2)=(h::S.map (·.2)).map D.int:=by rw[G_,VC];rfl
 rw[eR];generalize h::S.map (·.2)=Rc at k1 ⊢;refine sK ?_;rintro K hK -;simp;refine wx (hs.zipIdx 0) (λq=>.tup [.int q.2,holdD q.1]) (λq=>decide (q.1.1∈Rc)&&hasB q.1.2 l) (λq=>.int q.2) ?_;simp[hsD,FS];refine⟨by omega,λa b q m=>?_,hK _ ?_⟩
 ·have hT:=hT _ m;by_cases c:a∈Rc
  ·simp[c,hT]
  ·simp[c]
 ·rw[Lq (P:=λp=>decide (p.1∈Rc)&&hasB p.2 l)];simp;exact k1 _ ⟨_,rfl⟩
end
noncomputable def wyR(o:Option (List Int)):R:=match o.map (·.map D.int) with
 | some l=>.own l
 | none=>.val .non
theorem Pc{p:Int->Bool}{f:Int->Option (List Int)}{u:Int}{q:List Int}(hu:l[i]?=some u)(hp:p u=true)(hf:f u=some q)(hn:∀x∈(l.take i).filter p,f x=none):(l.filter p).findSome? f=some q:=by
 obtain⟨hi,hu⟩:=o_.mp hu
 have e:l=l.take i++u::l.drop (i+1):=by
  rw[←hu,←R7 hi,Tf]
 rw[e,SV,List.findSome?_append,TN.mpr hn,Us hp,WJ,hf];rfl
theorem Ld{rk:Int->Nat}(W:Web n rs rk):∀(k:Nat) (c:Option Int) (h t:Int),k<=100->0<=h->h < n->(∀x,c=some x->Adj rs x h)->mu rk c h < k->wpF (vf k) ([webD n rs,cameD c,D.int h,D.int t].map .val) λr _=>r=wyR (Wy (nbs rs) k c h t):=by
 intro k
 induction k with
 | zero=>intro c h t _ _ _ _ hm;omega
 | succ k ih =>
  intro c h t rG h0 h1 hc hm;have e1:=vJ W h0 h1;rw[vf];refine uP rfl λKE hE _=>?_
  rw[y8];rw[Wy] at hE;refine sK ?_;rintro K hK hR;by_cases ht:h=t
  ·rw[if_pos ht] at hE;subst ht;simp[dep,uK];exact hR _ _ (hE _ _ ⟨_,rfl,rfl⟩)
  ·rw[if_neg ht] at hE;simp[dep,uK,ht];refine hK _ ?_;refine sK ?_;rintro K hK iK;simp[e1];refine ud (J:=λi Γ=>∃x4 x5,(∀u∈((nbs rs h).take i).filter λu=>decide (some u≠c),Wy (nbs rs) k (some h) u t=none)/\Γ=[some (.val (webD n rs)),some (.val (cameD c)),some (.val (.int h)),some (.val (.int t)),x4,x5]) ⟨none,none,by simp,rfl⟩ ?_ ?_
   ·rintro i d Γ hd ⟨x4,x5,no,rfl⟩ KL aI - - fz;rw[C_,Q_] at hd;obtain⟨u,hu,rfl⟩:=hd;have tk:(nbs rs h).take (i+1)=(nbs rs h).take i++[u]:=by rw[Uq,hu];rfl
    have au:=(W.nb h u).mp (RZ hu);have un:=W.in_n au;refine⟨_,_,rfl,?_⟩;show wp _ [some (.val (webD n rs)),some (.val (cameD c)),some (.val (.int h)),some (.val (.int t)),some (.val (.int u)),x5] _;by_cases uc:some u=c
    ·simp[dep,vL,uc];refine aI _ ⟨_,_,λx hx=>no x ?_,rfl⟩;rw[tk,SV] at hx;simpa[uc] using hx
    ·have lt:=W.mu_lt hc au uc;have w1:=ih (some h) u t (by omega) (by omega) (by omega) (λx z=>by cases z;exact au) (by omega);obtain⟨m1,m2⟩:=xL w1;simp[dep,vL,uc];refine sK ?_;rintro K2 dE -;cases e:Wy (nbs rs) k (some h) u t with
     | some q =>
      have e3:=m1 _ (by rw[e];rfl);have lq:=(vk e).2;simp only[u3];refine AU rfl e3 ?_;refine⟨by simp,dE _ ?_⟩;clear dE;show wp _ [some (.val (webD n rs)),some (.val (cameD c)),some (.val (.int h)),some (.val (.int t)),some (.val (.int u)),some (.val (.lst (q.map D.int)))] _;simp[isN];refine⟨by omega,fz _ _ (iK _ _ (hE _ _ ⟨_,rfl,?_⟩))⟩;rw[Pc hu (by simpa using uc) e no];rfl
     | none =>
      have e3:=m2 (by rw[e];rfl);simp only[u3];refine DU rfl e3 ?_;refine⟨by simp,dE _ ?_⟩;clear dE;show wp _ [some (.val (webD n rs)),some (.val (cameD c)),some (.val (.int h)),some (.val (.int t)),some (.val (.int u)),some (.val .non)] _;simp[isN];refine aI _ ⟨_,_,λx hx=>?_,rfl⟩;rw[tk,SV] at hx
      rcases P_.mp hx with hx | hx
      ·exact no x hx
      ·rw[s_.mp (H_.mp hx).1];exact e
   ·rintro Γ ⟨x4,x5,no,rfl⟩;rw[q_,Tj] at no;refine hK _ ?_;refine⟨_,_,rfl,?_⟩;refine hE _ _ ⟨_,rfl,?_⟩;rw[TN.mpr no];rfl
theorem GP{rk:Int->Nat}(W:Web n rs rk){a b:Int}(a0:0<=a)(a1:a < n)(b0:0<=b)(b1:b < n):wpF vx ([webD n rs,D.int a,D.int b].map .val) λr _=>r=wyR (Wy (nbs rs) 21 none a b):=by
 have e1:=vQ (rs:=rs) a0 a1;have e2:=vQ (rs:=rs) b0 b1;have w:=Ld W 21 none a b (by omega) a0 a1 (λx z=>by cases z) (by simp[mu])
 change wpF (vf 21) ([webD n rs,D.non,D.int a,D.int b].map .val) _ at w
 obtain⟨m1,m2⟩:=xL w;refine uP rfl λKE hE _=>?_
 rw[Ar];refine sK ?_;rintro K hK -;simp[e1];refine hK _ ?_;refine sK ?_;rintro K hK -;simp[e2];refine hK _ ?_;cases e:Wy (nbs rs) 21 none a b with
 | some q =>
  rw[e] at hE;exact LI rfl (m1 _ (by rw[e];rfl)) (hE _ _ ⟨_,rfl,rfl⟩)
 | none =>
  rw[e] at hE;exact MB rfl (m2 (by rw[e];rfl)) (hE _ _ ⟨_,rfl,rfl⟩)
theorem J3{A h:M Fl}{QS:Fl->Gm->Prop}(e:c Γ=some (false,Γ))(hh:wp h Γ QS):wp (seqS (ifS c A (ret .nx)) h) Γ QS:=
 sK λK hK hR=>⟨.nx,Γ,by simp[ifS,bnd,e,ret],hK _ hh⟩
section
variable{rk:Int->Nat}{f:Nat}{hs:HS}
theorem w4(W:Web n rs rk):∀(k k':Nat) (c:Option Int) (h:Int),(∀x,c=some x->Adj rs x h)->mu rk c h < k->mu rk c h < k'->Wl (nbs rs) k c h=Wl (nbs rs) k' c h
 | 0,_,_,_,_,h1,_=>by omega
 | k+1,0,_,_,_,_,h2=>by omega
 | k+1,k'+1,c,h,hc,h1,h2=>by
  rw[Wl,Wl]
  congr 1
  refine PX λu hu=>?_
  rw[H_,decide_eq_true_eq] at hu;have au:=(W.nb h u).mp hu.1;have lt:=W.mu_lt hc au hu.2;exact w4 W k k' (some h) u (λx z=>by cases z;exact au) (by omega) (by omega)
theorem Cr(W:Web n rs rk){v:Int}(z:wants hs l v=true):∀(k:Nat) (c:Option Int) (h:Int),(∀x,c=some x->Adj rs x h)->mu rk c h < k->v∈Wl (nbs rs) k c h->v∈h::(RO rs hs l k c h).map (·.2)
 | 0,_,_,_,hm,_=>by omega
 | k+1,c,h,hc,hm,m=>by
  rcases u8.mp m with rfl | ⟨u,hu,uc,hv⟩
  ·exact m_
  ·have au:=(W.nb h u).mp hu;have lt:=W.mu_lt hc au uc;have aW:∀x,some h=some x->Adj rs x u:=λx z=>by cases z;exact au
   have ih:=Cr W z k (some h) u aW (by omega) hv;rw[w4 W k 20 (some h) u aW (by omega) (vW W au)] at hv;have ld:ldB rs hs l h u=true:=Sg.mpr ⟨v,hv,z⟩;rw[RO,VY];refine j_ _ (SB.mpr ⟨u,H_.mpr ⟨hu,by rw[ld];simpa using uc⟩,?_⟩);rw[G_];exact ih
theorem Jy{N:Int->List Int}:∀{k:Nat}{c:Option Int}{h t:Int}{p:List Int},Wy N k c h t=some p->∃q,p=h::q
 | 0,_,_,_,_,e=>by cases e
 | k+1,c,h,t,p,e=>by
  rw[Wy] at e;by_cases ht:h=t
  ·rw[if_pos ht] at e;cases e;exact⟨_,rfl⟩
  ·rw[if_neg ht,Q_] at e;obtain⟨q,_,rfl⟩:=e;exact⟨q,rfl⟩
theorem Ek(W:Web n rs rk):∀(k:Nat) (c:Option Int) (h t:Int) (p:List Int),(∀x,c=some x->Adj rs x h)->mu rk c h < k->Wy (nbs rs) k c h t=some p->∀r∈p.zip p.tail,Adj rs r.1 r.2/\t∈Wl (nbs rs) 20 (some r.1) r.2
 | 0,_,_,_,_,_,_,e,_,_=>by cases e
 | k+1,c,h,t,p,hc,hm,e,r,hr=>by
  rw[Wy] at e;by_cases ht:h=t
  ·rw[if_pos ht] at e;cases e;cases hr
  ·rw[if_neg ht,Q_] at e;obtain⟨q,e,rfl⟩:=e;obtain⟨u,hu,e⟩:=S7 e;rw[H_,decide_eq_true_eq] at hu;have au:=(W.nb h u).mp hu.1;have lt:=W.mu_lt hc au hu.2;have aW:∀x,some h=some x->Adj rs x u:=λx z=>by cases z;exact au
   have go:=Ek W k (some h) u t q aW (by omega) e;obtain⟨q',rfl⟩:=Jy e;rw[List.tail_cons,Tv] at hr
   rcases B_.mp hr with rfl | hr
   ·refine⟨au,?_⟩;rw[w4 W 20 k (some h) u aW (vW W au) (by omega)];exact(vk e).1
   ·exact go r hr
theorem FA(W:Web n rs rk):∀(k:Nat) (c:Option Int) (h t:Int),(∀x,c=some x->Adj rs x h)->mu rk c h < k->t∈Wl (nbs rs) k c h->∃p,Wy (nbs rs) k c h t=some p
 | 0,_,_,_,_,hm,_=>by omega
 | k+1,c,h,t,hc,hm,ht=>by
  rw[Wy];by_cases e:h=t
  ·exact⟨_,if_pos e⟩
  ·rw[if_neg e]
   rcases u8.mp ht with z | ⟨u,hu,uc,ht⟩
   ·exact absurd z.symm e
   ·have au:=(W.nb h u).mp hu;have lt:=W.mu_lt hc au uc;obtain⟨p,hp⟩:=FA W k (some h) u t (λx z=>by cases z;exact au) (by omega) ht;cases e2:(((nbs rs h).filter λu=>decide (some u≠c)).findSome? λu=>Wy (nbs rs) k (some h) u t) with
    | some q=>exact⟨_,rfl⟩
    | none=>rw[TN.mp e2 u (H_.mpr ⟨hu,by simpa using uc⟩)] at hp;cases hp
noncomputable def fstW(sp:Bool)(rs:List (Int×Int))(hs:HS)(l:List Int)(r:Int×Int):List (Int×Int):=((tl sp (nbs rs) hs 20 (some r.1) r.2).filter λw=>hasB w l).headD []
noncomputable def stpD(sp:Bool)(rs:List (Int×Int))(hs:HS)(l:List Int)(r:Int×Int):D:=.tup [.int r.1,.int r.2,wishD (fstW sp rs hs l r)]
noncomputable def chO(sp:Bool)(rs:List (Int×Int))(hs:HS)(l:List Int)(h:Int)(p:Int×List (Int×Int)):Option (List D):=if hasB p.2 l=true then(Wy (nbs rs) 21 none h p.1).map λq=>(q.zip q.tail).map (stpD sp rs hs l) else none
theorem Kg(W:Web n rs rk)(hw:∀p∈hs,Wf f p.2)(ll:l.length=f){r:Int×Int}{t:Int}(a:Adj rs r.1 r.2)(z:wants hs l t=true)(m:t∈Wl (nbs rs) 20 (some r.1) r.2):∃T,(tl sp (nbs rs) hs 20 (some r.1) r.2).filter (λw=>hasB w l)=fstW sp rs hs l r::T:=by
 have e:=Ew (sp:=sp) W hw ll a;have ld:ldB rs hs l r.1 r.2=true:=Sg.mpr ⟨t,m,z⟩;rw[ld] at e;unfold fstW;generalize (tl sp (nbs rs) hs 20 (some r.1) r.2).filter (λw=>hasB w l)=T at *;cases T with
 | nil=>cases e
 | cons w T=>exact⟨T,rfl⟩
end
section
variable{rk:Int->Nat}{f:Nat}{hs:HS}{h:Int}
theorem Fi(hi:i < hs.length):ixF (hsD hs) (.int (i:Int))=some (holdD (hAt hs i)):=by
 show atI (hs.map holdD) (i:Int)=_;rw[DL.uV,C_,Ap hi];rfl
theorem Bl(hi:i < hs.length):hAt hs i∈hs:=RZ (Ap hi)
theorem Kz{S:List Int}(hi:i < hs.length):((gvL hs l S).any λd=>deq d (.int (i:Int)))=(decide ((hAt hs i).1∈S)&&hasB (hAt hs i).2 l):=by
 have e:gvL hs l S=(((Sx hs.length).filter λk=>decide ((hAt hs k).1∈S)&&hasB (hAt hs k).2 l).map λk:Nat=>(k:Int)).map D.int:=by rw[VC];rfl
 rw[e,Ep,Ts,decide_eq_true_eq];simp only[u_,H_,SY];constructor
 ·rintro⟨k,⟨_,hk⟩,e⟩;have:k=i:=by omega
  rw[←this];exact hk
 ·exact λhk=>⟨i,⟨hi,hk⟩,rfl⟩
theorem Fm(hi:i < hs.length)(hb:hasB (hAt hs i).2 l=true):wants hs l (hAt hs i).1=true:=Sg.mpr ⟨_,Bl hi,by rw[hb];simp⟩
theorem PC(W:Web n rs rk)(hi:i < hs.length)(hb:hasB (hAt hs i).2 l=true):(hAt hs i).1∈h::(sortP (RO rs hs l 20 none h)).map (·.2)↔∃q,Wy (nbs rs) 21 none h (hAt hs i).1=some q:=by
 have hc:∀x,(none:Option Int)=some x->Adj rs x h:=λx z=>by cases z
 have m0:mu rk none h < 20:=by simp[mu]
 have m1:mu rk none h < 21:=by simp[mu]
 have em:(hAt hs i).1∈h::(sortP (RO rs hs l 20 none h)).map (·.2)↔(hAt hs i).1∈h::(RO rs hs l 20 none h).map (·.2):=by
  rw[B_,B_,((show(sortP (RO rs hs l 20 none h)).Perm _ from Vo _ _).map (·.2)).mem_iff]
 rw[em];constructor
 ·intro m;have:=(Cg (rs:=rs) (hs:=hs) (l:=l) 20 none h).subset m;rw[w4 W 20 21 none h hc m0 m1] at this;exact FA W 21 none h _ hc m1 this
 ·rintro⟨q,e⟩;have:=(vk e).1;rw[w4 W 21 20 none h hc m1 m0] at this;exact Cr W (Fm hi hb) 20 none h hc m0 this
theorem Nk(W:Web n rs rk)(hw:∀p∈hs,Wf f p.2)(hh:∀p∈hs,0<=p.1/\p.1 < n)(h1:1<=f)(hf:f<=3)(hl:hs.length<=8)(ll:l.length=f)(h0:0<=h)(hn:h < n)(hi:i < hs.length):wpF xy ([webD n rs,hsD hs,howD sp,.int h,letD l,.int (i:Int)].map .val) λr _=>r=(match chO sp rs hs l h (hAt hs i) with | some l=>R.own l | none=>R.val .non):=by
 have led:=Bk (sp:=sp) W hw h1 hf (by omega) ll h0 hn;have gd:depA (gvL hs l (h::(sortP (RO rs hs l 20 none h)).map (·.2)))<=99:=y_ (uw (n:=0) λd hd=>by obtain⟨k,_,rfl⟩:=u_.mp hd;exact w_ _) (by decide);have gv:=Kz (l:=l) (S:=h::(sortP (RO rs hs l 20 none h)).map (·.2)) hi;have ci:=PC (l:=l) (h:=h) W hi;have ix:=Fi hi;have ht:=hh _ (Bl hi);have wb:=GP W h0 hn ht.1 ht.2;obtain⟨m1,m2⟩:=xL wb;have wt:=Fm (l:=l) hi;have on:=Ek W 21 none h (hAt hs i).1;have ld:∀r:Int×Int,Adj rs r.1 r.2->_:=λr a=>DF (sp:=sp) W hw h1 hf (by omega) ll a
 have lH:lenF [hsD hs]=some (.int hs.length):=by simp[hsD]
 have i0:(0:Int)<=i:=by omega
 have i1:(i:Int) < hs.length:=by omega
 generalize gvL hs l (h::(sortP (RO rs hs l 20 none h)).map (·.2))=GV at *;generalize h::(sortP (RO rs hs l 20 none h)).map (·.2)=S at *;generalize (sortP (RO rs hs l 20 none h)).map pairD=PD at *;refine uP rfl λKE hE _=>?_
 rw[AR];refine sK ?_;rintro K hK -;simp[led];refine hK _ ?_;refine sK ?_;rintro K hK -;simp[lH,i0,i1];refine hK _ ?_;unfold chO at hE;generalize hAt hs i=p at *;by_cases c:p.1∈S/\hasB p.2 l=true
 ·obtain⟨q,e⟩:=(ci c.2).mp c.1;have e3:=m1 _ (by rw[e];rfl);have lq:=(vk e).2;have on:=on q (λx z=>by cases z) (by simp[mu]) e;rw[if_pos c.2,e] at hE;refine sK ?_;rintro K hK hR;simp[gv,gd,c.1,c.2,dep];refine hK _ ?_;refine sK ?_;rintro K hK -;simp only[u3];refine AU (by simp[consA,nilA,bnd,nm,ret,op2,lft,ix];rfl) e3 ?_;refine⟨by simp,hK _ ?_⟩;show wp _ [some (.val (webD n rs)),some (.val (hsD hs)),some (.val (howD sp)),some (.val (.int h)),some (.val (letD l)),some (.val (.int i)),some (.val (.tup [.lst PD,.lst GV])),some (.val (.lst (q.map D.int)))] _;simp;refine wx (q.zip q.tail) (λr=>.tup [.int r.1,.int r.2]) (λ_=>true) (stpD sp rs hs l) ?_;have ez:pairsD (q.map D.int) (q.map D.int).tail=(q.zip q.tail).map λr=>D.tup [.int r.1,.int r.2]:=by rw[←List.map_tail,zG]
  have cd:cutD (q.map D.int) (some 1) none=(q.map D.int).drop 1:=Bi (n:=1);simp[cd];refine⟨ez,by omega,λa b m=>?_,?_⟩
  ·obtain⟨o1,o2⟩:=on (a,b) m;obtain⟨T,e5⟩:=Kg (sp:=sp) W hw ll o1 (wt c.2) o2;have e6:=ld (a,b) o1;rw[e5] at e6;simp[e6,stpD]
  ·exact hE _ _ ⟨_,rfl,by simp⟩
 ·have ng:(decide (p.1∈S)&&hasB p.2 l)=false:=by
   rw[Wa,decide_eq_false_iff_not];by_cases z:p.1∈S
   ·exact .inr (by cases y:hasB p.2 l with
     | false=>rfl
     | true=>exact absurd ⟨z,y⟩ c)
   ·exact .inl z
  refine sK ?_;rintro K hK hR;rw[ng] at gv;simp[gv,gd,dep];refine hR _ _ (hE _ _ ⟨_,rfl,?_⟩);by_cases y:hasB p.2 l=true
  ·rw[if_pos y];cases e:Wy (nbs rs) 21 none h p.1 with
   | none=>rfl
   | some q=>exact absurd ⟨(ci y).mpr ⟨q,e⟩,y⟩ c
  ·rw[if_neg y]
end
section
variable{rk:Int->Nat}{f:Nat}{hs:HS}{a b:Int}{m:Int}
noncomputable def sameB(ts:List (List D)):Bool:=ts.all λt=>decide (t.length=(ts.headD []).length)
theorem Il{t t0:List D}(g0:Γ[0]?=some (some (.val (.lst (.tup t0::ds)))))(g1:Γ[1]?=some (some (.val (.tup t)))):tst (op2 (eqF true) (fn1 lenF (consA (nm 1) nilA)) (fn1 lenF (consA (op2 ixF (nm 0) (ret (.int 0))) nilA))) Γ=some (!decide (t.length=t0.length),Γ):=by
 refine t6 ?_
 have ix:ixF (.lst (.tup t0::ds)) (.int 0)=some (.tup t0):=by
  show atI _ 0=_;exact LW
 simp[g0,g1,ix,dep,uK];by_cases h:t.length=t0.length
 ·simp[h]
 ·have:¬(t.length:Int)=t0.length:=by omega
  simp[h,this]
theorem Gk{t0:List D}{ds:List D}:∀(us:List (List D)) (x:Option R),((forXM (tgN 1) (ifS (tst (op2 (eqF true) (fn1 lenF (consA (nm 1) nilA)) (fn1 lenF (consA (op2 ixF (nm 0) (ret (.int 0))) nilA)))) (λ_=>none) (ret .nx)) (ifX (tst (op2 (eqF true) (fn1 lenF (consA (nm 1) nilA)) (fn1 lenF (consA (op2 ixF (nm 0) (ret (.int 0))) nilA)))) (raX 0 (consA (ret (.str "letters and wishes of unlike many fields")) nilA)) nvX) (us.map D.tup)) [some (.val (.lst (.tup t0::ds))),x]).map (·.1)=if us.all (λt=>decide (t.length=t0.length)) then none else some 0
 | [],x=>rfl
 | u::us,x=>by
  have t:=Il (Γ:=[some (.val (.lst (.tup t0::ds))),some (.val (.tup u))]) (t:=u) rfl rfl;rw[G_,forXM,S0];rw[tR (show tgN 1 (.tup u) [some (.val (.lst (.tup t0::ds))),x]=some ((),[some (.val (.lst (.tup t0::ds))),some (.val (.tup u))]) from rfl)];cases h:decide (u.length=t0.length) with
  | true =>
   rw[h] at t;rw[uL (by rw[uM t];rfl),tR (show(ifS _ _ _) _=some (Fl.nx,[some (.val (.lst (.tup t0::ds))),some (.val (.tup u))]) by unfold ifS;rw[tR t];rfl)];exact Gk us _
  | false =>
   rw[h] at t;rw[uT (r:=(0,[some (.val (.lst (.tup t0::ds))),some (.val (.tup u))])) (by rw[uM t];rfl)];rfl
theorem xI:v5 [.lst (ts.map D.tup)]=if sameB ts then none else some 0:=by
 show(forX _ _ _ _ [some (.val (.lst (ts.map D.tup))),none]).map _=_;unfold forX;rw[tR (show itS (nm 0) [some (.val (.lst (ts.map D.tup))),none]=some (ts.map D.tup,[some (.val (.lst (ts.map D.tup))),none]) from rfl)];cases ts with
 | nil=>rfl
 | cons t ts =>
  have:=Gk (t0:=t) (ds:=ts.map D.tup) (t::ts) none;rw[G_] at this ⊢;exact this
noncomputable def wsD(hs:HS):List (List D):=hs.map λp=>p.2.map pairD
theorem wX:(hs.map (·.2)).map wishD=(wsD hs).map D.tup:=by unfold wsD;rw[VC,VC];rfl
theorem MZ:letD l=D.tup (l.map D.int):=rfl
theorem wso:coF ua [hsD hs]=if hs.length<=1000 then some ((wsD hs).map D.tup) else coF ua [hsD hs]:=by
 split
 ·rename_i h;rw[←wX];exact yH h
 ·rfl
theorem Ho(h:sameB ts=true):cvF tZ [.lst (ts.map D.tup)]=some .non:=vX (n:=(ts.headD []).length) λd hd=>by
 obtain⟨t,ht,rfl⟩:=u_.mp hd;exact⟨t,rfl,of_decide_eq_true (n_.mp h t ht)⟩
theorem BC(hg:∀p∈hs,∃f,1<=f/\f<=3/\Wf f p.2)(h:sameB (wsD hs)=true):∃f,1<=f/\f<=3/\∀p∈hs,Wf f p.2:=by
 cases hs with
 | nil=>exact⟨1,by omega,by omega,λp hp=>by cases hp⟩
 | cons p0 hs =>
  obtain⟨f,f1,f3,w0⟩:=hg p0 m_;refine⟨f,f1,f3,λp hp=>?_⟩;obtain⟨f',_,_,w⟩:=hg p hp;have e:=of_decide_eq_true (n_.mp h (p.2.map pairD) (u_.mpr ⟨p,hp,rfl⟩));have e:(p.2.map pairD).length=(p0.2.map pairD).length:=e;rw[q_,q_,w.len,w0.len] at e;rw[←e];exact w
theorem B7(hg:∀p∈hs,∃f,1<=f/\f<=3/\Wf f p.2)(h:sameB (l.map D.int::wsD hs)=true):∀p∈hs,Wf l.length p.2:=λp hp=>by
 obtain⟨f',_,_,w⟩:=hg p hp;have e:=of_decide_eq_true (n_.mp h (p.2.map pairD) (j_ _ (u_.mpr ⟨p,hp,rfl⟩)));have e:(p.2.map pairD).length=(l.map D.int).length:=e;rw[q_,q_,w.len] at e;rw[←e];exact w
theorem Kp(hl:hs.length<=8)(g1:Γ[1]?=some (some (.val (hsD hs))))(ht:t Γ=some (ds,Γ)):consA (frz (fn1 (coF ua) (consA (nm 1) nilA))) t Γ=some (.lst ((wsD hs).map D.tup)::ds,Γ):=by
 have e:=wso (hs:=hs);rw[if_pos (by omega)] at e;simp[consA,frz,fn1,bnd,nm,g1,nilA,ret,lft,e,ht]
theorem NP(W:Web n rs rk)(hl:hs.length<=8)(f:few9 a)(f':few9 b):yI [webD n rs,hsD hs,howD sp,.int a,.int b]=if sameB (wsD hs) then(if isH n a&&isH n b then(if decide (b∈nbs rs a) then none else some 2) else some 1) else some 0:=by
 show(orX _ (thenX _ _) [some (.val (webD n rs)),some (.val (hsD hs)),some (.val (howD sp)),some (.val (.int a)),some (.val (.int b))]).map _=_;have ea:=Kp (Γ:=[some (.val (webD n rs)),some (.val (hsD hs)),some (.val (howD sp)),some (.val (.int a)),some (.val (.int b))]) hl rfl (t:=nilA) rfl;cases h:sameB (wsD hs) with
 | false=>rw[uT (by rw[tM ea,xI,h];rfl)];rfl
 | true =>
  rw[uL (by rw[tM ea,xI,h];rfl),u5 (by unfold dropS;rw[tR (ur ea (Ho h))];rfl),tM rfl,Gf W f f'];cases isH n a&&isH n b<;>cases decide (b∈nbs rs a)<;>rfl
end
section
variable{rk:Int->Nat}{f:Nat}{hs:HS}{a b:Int}{m:Int}
theorem EQ{g:M Fl}{m:M Nat}{r:R}(h:g Γ=some (Fl.rt r,Γ1)):thenX g m Γ=none:=by unfold thenX bnd;rw[h]
theorem OS(hl:hs.length<=8)(g1:Γ[1]?=some (some (.val (hsD hs))))(g4:Γ[4]?=some (some (.val (letD l)))):consA (frz (op2 catF (frz (lstA (consA (nm 4) nilA))) (frz (fn1 (coF ua) (consA (nm 1) nilA))))) nilA Γ=some ([.lst ((l.map D.int::wsD hs).map D.tup)],Γ):=by
 have e:=wso (hs:=hs);rw[if_pos (by omega)] at e;have lw:(wsD hs).length=hs.length:=by simp[wsD]
 have lk:1+((wsD hs).map D.tup).length<=lim:=by unfold lim;rw[q_];omega
 have c:catF (.lst [.tup (l.map D.int)]) (.lst ((wsD hs).map D.tup))=some (.tup (l.map D.int)::(wsD hs).map D.tup):=if_pos lk;simp[consA,frz,fn1,bnd,nm,g1,g4,nilA,ret,lft,e,op2,lstA,c,lim,MZ]
theorem FM(hl:hs.length<=8)(fa:few9 a):wK [webD n rs,hsD hs,howD sp,.int a,letD l]=if sameB (l.map D.int::wsD hs) then(if isH n a then none else some 1) else some 0:=by
 show(orX _ (thenX _ _) [some (.val (webD n rs)),some (.val (hsD hs)),some (.val (howD sp)),some (.val (.int a)),some (.val (letD l)),none,none,none]).map _=_;have ea:=OS (l:=l) (Γ:=[some (.val (webD n rs)),some (.val (hsD hs)),some (.val (howD sp)),some (.val (.int a)),some (.val (letD l)),none,none,none]) hl rfl rfl;cases h:sameB (l.map D.int::wsD hs) with
 | false=>rw[uT (by rw[tM ea,xI,h];rfl)];rfl
 | true =>
  rw[uL (by rw[tM ea,xI,h];rfl),u5 (by unfold dropS;rw[tR (ur ea (Ho h))];rfl),tM rfl,vV fa];cases isH n a<;>rfl
theorem Jd(g5:Γ[5]?=some (some (.val (.int m))))(g1:Γ[1]?=some (some (.val (hsD hs)))):notT (tst (chn leI ltI (ret (.int 0)) (nm 5) (fn1 lenF (consA (nm 1) nilA)))) Γ=some (!isH hs.length m,Γ):=by
 refine t6 ?_;unfold isH;have lH:lenF [hsD hs]=some (.int hs.length):=by simp[hsD]
 by_cases h0:0<=m<;>simp[g1,g5,h0,lH]
noncomputable abbrev gC(n:Nat)(rs:List (Int×Int))(hs:HS)(sp:Bool)(a:Int)(l:List Int)(m:Int)(x:Option R):Gm:=[some (.val (webD n rs)),some (.val (hsD hs)),some (.val (howD sp)),some (.val (.int a)),some (.val (letD l)),some (.val (.int m)),x,none]
theorem K'(W:Web n rs rk)(hg:∀p∈hs,∃f,1<=f/\f<=3/\Wf f p.2)(hh:∀p∈hs,0<=p.1/\p.1 < n)(hl:hs.length<=8)(l1:1<=l.length)(l3:l.length<=3)(fa:few9 a)(fm:few9 m):zP [webD n rs,hsD hs,howD sp,.int a,letD l,.int m]=if sameB (l.map D.int::wsD hs) then(if isH n a then(if isH hs.length m then none else some 4) else some 1) else some 0:=by
 show(orX _ (thenX _ (orX _ (thenX _ (thenX _ _)))) (gC n rs hs sp a l m none)).map _=_;have x:=FM (n:=n) (rs:=rs) (sp:=sp) (l:=l) hl fa;cases h:sameB (l.map D.int::wsD hs) with
 | false =>
  rw[h] at x;rw[uT (by rw[tM rfl,x];rfl)];rfl
 | true =>
  rw[h] at x;cases ha:isH n a with
  | false =>
   rw[ha] at x;rw[uT (by rw[tM rfl,x];rfl)];rfl
  | true =>
   rw[ha] at x;have hb:=uN.mp ha;have led:=Bk (sp:=sp) W (B7 hg h) l1 l3 (by omega) rfl hb.1 hb.2;have gd:depA (gvL hs l (a::(sortP (RO rs hs l 20 none a)).map (·.2)))<=99:=y_ (uw (n:=0) λd hd=>by obtain⟨k,_,rfl⟩:=u_.mp hd;exact w_ _) (by decide);generalize gvL hs l (a::(sortP (RO rs hs l 20 none a)).map (·.2))=GV at *;generalize (sortP (RO rs hs l 20 none a)).map pairD=PD at *;rw[uL (by rw[tM rfl,x];rfl),u5 (Γ1:=(gC n rs hs sp a l m (some (.val (.tup [.lst PD,.lst GV]))))) (by unfold setV;rw[tR (ur rfl led)];rfl)];have t:=Jd (hs:=hs) (m:=m) (Γ:=(gC n rs hs sp a l m (some (.val (.tup [.lst PD,.lst GV]))))) rfl rfl;cases hm:isH hs.length m with
   | false =>
    rw[hm] at t;rw[uT (r:=(4,_)) (by rw[uM t];show raX 4 _ _=_;simp[raX,bnd,consA,ret,nilA,lft,un1,f1F,nm,fm];rfl)];rfl
   | true =>
    rw[hm] at t;rw[uL (by rw[uM t];rfl),u5 (show ifS _ _ _ _=some (Fl.nx,(gC n rs hs sp a l m (some (.val (.tup [.lst PD,.lst GV]))))) by unfold ifS;rw[tR t];rfl)];have mb:=uN.mp hm;obtain⟨i,rfl⟩:∃i:Nat,m=(i:Int):=⟨m.toNat,by omega⟩;have hi:i < hs.length:=by omega
    have tt:tst (op2 (inF true) (nm 5) (op2 ixF (nm 6) (ret (.int 1)))) (gC n rs hs sp a l i (some (.val (.tup [.lst PD,.lst GV]))))=some (!GV.any λd=>deq d (.int i),(gC n rs hs sp a l i (some (.val (.tup [.lst PD,.lst GV]))))):=by
     refine t6 ?_;simp[gd,dep]
    cases ga:(GV.any λd=>deq d (.int (i:Int))) with
    | false =>
     rw[ga] at tt;rw[EQ (show ifS _ _ _ _=some (Fl.rt (.val .non),_) by unfold ifS;rw[tR tt];rfl)];rfl
    | true =>
     rw[ga] at tt;rw[u5 (show ifS _ _ _ _=some (Fl.nx,_) by unfold ifS;rw[tR tt];rfl)];have ix:=Fi hi;have hp:=hh _ (Bl hi);have fp:few9 (hAt hs i).1:=xB (by have:=W.n8;omega);have xw:=Dj (rs:=rs) (n:=n) (a:=a) (b:=(hAt hs i).1) fa fp;rw[ha,uN.mpr hp] at xw;rw[tM (ds:=[webD n rs,.int a,.int (hAt hs i).1]) (by simp[consA,nilA,bnd,nm,ret,op2,lft,ix]),xw];rfl
theorem PH(hg:∀p∈hs,∃f,1<=f/\f<=3/\Wf f p.2)(hl:hs.length<=8):zS [howD sp,.lst ((wsD hs).map D.tup)]=if sameB (wsD hs) then none else some 0:=by
 show(orX _ (thenX _ _) [some (.val (howD sp)),some (.val (.lst ((wsD hs).map D.tup)))]).map _=_
 have xr:wT [.lst ((wsD hs).map D.tup)]=if sameB (wsD hs) then none else some 0:=by
  show(fnX _ _ [some (.val (.lst ((wsD hs).map D.tup))),none]).map _=_;rw[tM rfl,xI];cases sameB (wsD hs)<;>rfl
 have xp:yU [.lst ((wsD hs).map D.tup)]=if sameB (wsD hs) then none else some 0:=by
  show(fnX _ _ [some (.val (.lst ((wsD hs).map D.tup))),none,none,none,none]).map _=_;rw[tM rfl,xr];cases sameB (wsD hs)<;>rfl
 have q:=Ba (sp:=sp)
 have t:tst (op2 (eqF false) (nm 0) (ret (.str "spare"))) [some (.val (howD sp)),some (.val (.lst ((wsD hs).map D.tup)))]=some (sp,[some (.val (howD sp)),some (.val (.lst ((wsD hs).map D.tup)))]):=by
  refine t6 ?_;simp[q.1,dep]
 cases sp with
 | false =>
  rw[uL (by rw[uM t];rfl),u5 (show ifS _ _ _ _=some (Fl.nx,_) by unfold ifS;rw[tR t];rfl),tM rfl,xr];cases sameB (wsD hs)<;>rfl
 | true =>
  cases h:sameB (wsD hs) with
  | false =>
   rw[h] at xp;rw[uT (by rw[uM t,if_pos rfl,tM rfl,xp];rfl)];rfl
  | true =>
   rw[h] at xp;obtain⟨f,f1,f3,hw⟩:=BC hg h;have e2:=Hq (ws:=hs.map (·.2)) (λu hu=>by obtain⟨p,hp,rfl⟩:=u_.mp hu;exact hw p hp) f1 f3 (by rw[q_];omega) (va _) (A8 _);rw[wX] at e2;rw[uL (by rw[uM t,if_pos rfl,tM rfl,xp];rfl)];rw[EQ (show ifS _ _ _ _=some (Fl.rt _,_) by unfold ifS;rw[tR t,if_pos rfl];unfold retO;rw[tR (ur rfl e2)];rfl)];rfl
end
theorem fn1E{F:List D->Option D}(e1:t Γ=some (ds,Γ))(e2:F ds=some d):fn1 F t Γ=some (d,Γ):=by simp only[fn1,bnd,e1,lft,e2]
theorem orE{a b:M Bool}(e1:a Γ=some (false,Γ))(e2:b Γ=some (false,Γ)):orT a b Γ=some (false,Γ):=by simp[orT,bnd,e1,e2]
theorem neE{A C:M D}(e1:A Γ=some (d,Γ))(e2:C Γ=some (d,Γ))(h:dep d<=100):tst (op2 (eqF true) A C) Γ=some (false,Γ):=by
 have e3:eqF true d d=some (.bl false):=by
  unfold eqF;rw[if_pos ⟨h,h⟩,DL.vG];rfl
 simp only[tst,op2,bnd,e1,e2,lft,e3,asB]
theorem yP:cvF ux [.exc "NoKin" none]=some (.str "kin"):=by kernel_rfl
theorem wz:cvF ux [.exc "NoHouse" none]=some (.str "house"):=by kernel_rfl
theorem Ej:cvF ux [.exc "NoRoad" none]=some (.str "road"):=by kernel_rfl
theorem LP:cvF ux [.exc "NoHold" none]=some (.str "hold"):=by kernel_rfl
theorem ye{A C:M Fl}{k:Bool}(h:c Γ=some (k,Γ1)):ifS c A C Γ=(if k then A else C) Γ1:=by unfold ifS bnd;rw[h]
theorem v8{g:M D}(h:g Γ=some (d,Γ)):dropS g Γ=some (Fl.nx,Γ):=by unfold dropS;rw[tR h];rfl
theorem v7{g:M (List D)}(h:g Γ=some (ds,Γ)):frz g Γ=some (.lst ds,Γ):=by unfold frz;rw[tR h];rfl
theorem EZ{g:List R->Option (R×List R)}{o:Option (List D)}(ht:t Γ=some (ds,Γ))(h:(∀l,o=some l->coF g ds=some l)/\(o=none->MixN g ds)):dropS (altM (frz (fn1 (coF g) t)) (fn1 (cvF g) t)) Γ=some (Fl.nx,Γ):=by
 have w:wp (altM (frz (fn1 (coF g) t)) (fn1 (cvF g) t)) Γ λ_ ae=>ae=Γ:=by
  cases o with
  | some l=>exact AU ht (h.1 l rfl) rfl
  | none=>exact DU ht (h.2 rfl) rfl
 obtain⟨d,_,e,rfl⟩:=w;exact v8 e
theorem xD{g:M D}{h:M Fl}{QS:Fl->Gm->Prop}(e:g Γ=some (d,Γ))(hi:Nat.blt i Γ.length=true)(hh:wp h (Γ.set i (some (.val d))) QS):wp (seqS (setV i g) h) Γ QS:=
 sK λK hK hR=>⟨.nx,_,by have bw:i < Γ.length:=Nat.le_of_ble_eq_true hi;simp[setV,bnd,e,putS,ret,bw],hK _ hh⟩
theorem yb{h:M Fl}{Q:Fl->Gm->Prop}{k:Bool}(e:c Γ=some (k,Γ))(h1:k=true->Q (.rt (.val d)) Γ)(h2:k=false->wp h Γ Q):wp (seqS (ifS c (retS (ret d)) (ret .nx)) h) Γ Q:=by
 cases k with
 | true=>exact sK λK hK hR=>⟨.rt (.val d),Γ,by rw[ye e];rfl,hR _ _ (h1 rfl)⟩
 | false=>exact sK λK hK hR=>⟨.nx,Γ,by rw[ye e];rfl,hK _ (h2 rfl)⟩
theorem yD{x y:M Bool}{i j:Bool}(e1:x Γ=some (i,Γ))(e2:y Γ=some (j,Γ)):andT x y Γ=some (i&&j,Γ):=by cases i<;>simp[andT,bnd,e1,e2,ret]
theorem Le{x y:M Bool}{i j:Bool}(e1:x Γ=some (i,Γ))(e2:y Γ=some (j,Γ)):orT x y Γ=some (i||j,Γ):=by cases i<;>simp[orT,bnd,e1,e2,ret]
theorem uC{g:M D}{k:Bool}(e:g Γ=some (.bl k,Γ)):tst g Γ=some (k,Γ):=by simp[tst,bnd,e,lft,asB]
theorem uB{α:Type}{F:D->D->Option α}{x y:M D}{c:D}{e:α}(e1:x Γ=some (c,Γ))(e2:y Γ=some (d,Γ))(e3:F c d=some e):op2 F x y Γ=some (e,Γ):=by simp[op2,bnd,e1,e2,lft,e3]
theorem OM{x y:M D}{k:Bool}{e:D}(h:c Γ=some (k,Γ))(e1:x Γ=some (d,Γ))(e2:y Γ=some (e,Γ)):ifV c x y Γ=some (if k then d else e,Γ):=by cases k<;>simp[ifV,bnd,h,e1,e2]
section
variable{rk:Int->Nat}{f:Nat}{hs:HS}{a b:Int}{m:Int}
theorem JH:((metL ns).length:Int) > 1↔¬ ∀x∈ns,∀y∈ns,x=y:=by
 constructor
 ·intro h z;cases ns with
  | nil=>exact absurd h (by decide)
  | cons x ns =>
   have:metL (x::ns)=[x]:=by
    unfold metL;rw[R8,Dd _ _ λi hi=>?_]
    ·rfl
    ·have bw:i < (x::ns).length:=by simpa using hi
     have e:(x::ns).getD i 0=(x::ns)[i]:=by rw[h_,g_ bw];rfl
     show(x::ns).getD i 0=(x::ns).getD 0 0;rw[e];exact z _ (Sf _) _ m_
   rw[this] at h;simp at h
 ·intro h
  apply Ud
  intro g;refine h λx hx y hy=>?_
  have mm:∀z∈ns,z∈metL ns:=λz hz=>by
   obtain⟨i,hi,e⟩:=Wn.mp hz;have:=DK (λi=>ns.getD i 0) ns.length i hi;have e2:ns.getD i 0=z:=by rw[h_,g_ hi];exact e
   rw[←e2];exact this
  have hx:=mm x hx;have hy:=mm y hy;have le:(metL ns).length<=1:=by omega
  cases e:metL ns with
  | nil=>rw[e] at hx;cases hx
  | cons z r =>
   rw[e] at hx hy le;have:r=[]:=Sw.mp (by simpa using le);subst this;rw[s_.mp hx,s_.mp hy]
theorem O0:sameB ts=true↔∀t∈ts,∀u∈ts,t.length=u.length:=by
 unfold sameB;rw[n_];constructor
 ·intro h t ht u hu;rw[of_decide_eq_true (h t ht),of_decide_eq_true (h u hu)]
 ·intro h t ht;cases ts with
  | nil=>cases ht
  | cons t0 ts=>exact decide_eq_true (h t ht t0 m_)
theorem Ks(h:∀k:Int,k∈ns↔∃t∈ts,k=(t.length:Int)):decide (((metL ns).length:Int) > 1)=!sameB ts:=by
 have:((metL ns).length:Int) > 1↔¬sameB ts=true:=by
  rw[JH,O0];refine not_congr ⟨?_,?_⟩
  ·intro z t ht u hu;have:=z _ ((h _).mpr ⟨t,ht,rfl⟩) _ ((h _).mpr ⟨u,hu,rfl⟩);omega
  ·intro z x hx y hy;obtain⟨t,ht,rfl⟩:=(h x).mp hx;obtain⟨u,hu,rfl⟩:=(h y).mp hy;rw[z t ht u hu]
 cases e:sameB ts with
 | true=>rw[e] at this;simpa using this
 | false=>rw[e] at this;simpa using this
theorem J0(W:Web n rs rk):inF true (pairD (mkR a b)) (.tup (rs.map pairD))=some (.bl (!decide (b∈nbs rs a))):=by
 have e:(rs.map pairD).any (λd=>deq d (pairD (mkR a b)))=decide (b∈nbs rs a):=by
  rw[Ts,Sg,decide_eq_true_eq,W.nb];constructor
  ·rintro⟨d,hd,h⟩;obtain⟨r,hr,rfl⟩:=u_.mp hd;have lt:=W.lt r hr;have h:r.1=(mkR a b).1/\r.2=(mkR a b).2:=by simpa[pairD,deq,deqA] using h
   rw[xH] at h;simp only at h;unfold Adj;by_cases z:a<=b
   ·left;have:r=(a,b):=VP (by omega) (by omega);rw[←this];exact hr
   ·right;have:r=(b,a):=VP (by omega) (by omega);rw[←this];exact hr
  ·rintro(h | h)
   ·have lt:=W.lt _ h;simp only at lt;refine⟨_,u_.mpr ⟨_,h,rfl⟩,?_⟩;have:mkR a b=(a,b):=by rw[xH];exact VP (by omega) (by omega)
    rw[this,DL.vG]
   ·have lt:=W.lt _ h;simp only at lt;refine⟨_,u_.mpr ⟨_,h,rfl⟩,?_⟩;have:mkR a b=(b,a):=by rw[xH];exact VP (by omega) (by omega)
    rw[this,DL.vG]
 have d1:=zp (p:=mkR a b);have d2:=uw (ds:=rs.map pairD) (n:=1) λd hd=>by obtain⟨r,_,rfl⟩:=u_.mp hd;exact zp
 unfold inF;simp only[seqI];rw[if_pos ⟨by omega,by omega⟩,e];rfl
end
section
variable{rk:Int->Nat}{f:Nat}{hs:HS}{a b:Int}{m:Int}{at_:Int}
noncomputable def szs(hs:HS):List Int:=hs.map λp=>(p.2.length:Int)
theorem MA(hl:hs.length<=8)(g:Γ[2]?=some (some (.val (hsD hs)))):frz (compO 2 (itS (nm 2)) (tgTup 2 (tgCons (tgN 0) (tgCons (tgN 1) tgNil))) (ret true) (fn1 lenF (consA (nm 1) nilA))) Γ=some (.lst ((szs hs).map D.int),Γ):=by
 refine t6 ?_;have e:(szs hs).map D.int=hs.map λp=>D.int (p.2.length:Int):=by unfold szs;rw[VC];rfl
 rw[e];simp;refine wx hs holdD (λ_=>true) (λp=>.int p.2.length) ?_;simp[g,hsD,holdD,wishD];omega
theorem FY{A:M D}{x:D}{k:Bool}(h:A Γ=some (.bl k,Γ))(hx:Y Γ=some (x,Γ)):frz (op2 timesF (frz (lstA (consA Y nilA))) (fn1 intBF (consA A nilA))) Γ=some (.lst (if k then[x] else[]),Γ):=by
 cases k<;>simp[frz,op2,bnd,lstA,consA,nilA,hx,h,ret,lft,fn1,intBF,timesF,lim]
theorem Ac{A:M D}{xs:List D}(h:A Γ=some (.lst xs,Γ))(hx:Y Γ=some (.lst ys,Γ))(hl:xs.length+ys.length<=100):frz (op2 catF A Y) Γ=some (.lst (xs++ys),Γ):=by
 have:xs.length+ys.length<=1000000:=by omega
 simp[frz,op2,bnd,h,hx,lft,catF,lim,this,ret]
noncomputable def inZ(x:Int)(xs:List Int):Bool:=decide (x∈xs)
theorem zH{xs:List Int}(g:Γ[0]?=some (some (.val (.int at_))))(ht:t Γ=some (xs.map D.int,Γ))(hl:xs.length<=100):op2 (inF neg) (nm 0) (tupA t) Γ=some (.bl (if neg then !inZ at_ xs else inZ at_ xs),Γ):=by
 have e:inF neg (.int at_) (.tup (xs.map D.int))=some (.bl (if neg then !inZ at_ xs else inZ at_ xs)):=by
  unfold inF;simp only[seqI];rw[if_pos ⟨by simp[dep],by rw[yK];omega⟩,Ep];rfl
 have:xs.length<=1000000:=by omega
 simp[op2,bnd,nm,g,tupA,ht,lft,lim,this,e]
noncomputable def hsZ(a b:Int)(k:Bool):List Int:=a::if k then[b] else[]
theorem Gi:∀{H:List Int},(H.filter λx=>!isH n x).isEmpty=H.all (isH n)
 | []=>rfl
 | x::H=>by
  rw[U4,S0];cases isH n x with
  | true=>simpa using Gi (H:=H)
  | false=>rfl
theorem A1{x k:Int}:eqF false (.int x) (.int k)=some (.bl (decide (x=k))):=by
 unfold eqF;rw[if_pos ⟨by simp[dep],by simp[dep]⟩,uK];rfl
theorem HC{H:List Int}(hl:H.length<=2)(g8:Γ[8]?=some (some (.val (.lst (H.map D.int)))))(g1:Γ[1]?=some (some (.val (webD n rs)))):tst (op2 (eqF true) (frz (compO 1 (itS (nm 8)) (tgN 0) (orT (tst (op2 ltI (nm 0) (ret (.int 0)))) (tst (op2 geI (nm 0) (op2 ixF (nm 2) (ret (.int 0)))))) (ret (.int 1)))) (frz (lstA nilA))) Γ=some (!H.all (isH n),Γ):=by
 have c:frz (compO 1 (itS (nm 8)) (tgN 0) (orT (tst (op2 ltI (nm 0) (ret (.int 0)))) (tst (op2 geI (nm 0) (op2 ixF (nm 2) (ret (.int 0)))))) (ret (.int 1))) Γ=some (.lst ((H.filter λx=>!isH n x).map λ_=>.int 1),Γ):=by
  refine t6 ?_;simp;refine uA H D.int (λx=>!isH n x) (λ_=>.int 1) ?_;simp[g8,g1,webD];refine⟨by omega,λx hx=>?_⟩;unfold isH;by_cases h0:x < 0
  ·have:¬0<=x:=by omega
   simp[h0,this]
  ·have:0<=x:=by omega
   by_cases h1:x < n
   ·have:¬(n:Int)<=x:=by omega
    simp[*]
   ·have:(n:Int)<=x:=by omega
    simp[*]
 have d1:dep (.lst ((H.filter λx=>!isH n x).map λ_=>D.int 1))<=100:=by
  rw[dep];have:=uw (ds:=(H.filter λx=>!isH n x).map λ_=>D.int 1) (n:=0) λd hd=>by obtain⟨w,_,rfl⟩:=u_.mp hd;exact w_ _
  omega
 refine uC (uB c (show frz (lstA nilA) Γ=some (.lst [],Γ) from rfl) ?_);unfold eqF;rw[if_pos ⟨d1,by decide⟩,Gr];rw[List.isEmpty_map,Gi];rfl
theorem ms{z:Bool}:decide (((metL (szs hs++if z then[(l.length:Int)] else[])).length:Int) > 1)=!(if z then sameB (l.map D.int::wsD hs) else sameB (wsD hs)):=by
 have e:∀k:Int,(∃t∈wsD hs,k=(t.length:Int))↔k∈szs hs:=λk=>⟨λ⟨t,ht,hk⟩=>by
  obtain⟨p,hp,rfl⟩:=u_.mp ht;exact u_.mpr ⟨p,hp,by rw[hk,q_]⟩,λh=>by
  obtain⟨p,hp,rfl⟩:=u_.mp h
  exact⟨_,u_.mpr ⟨p,hp,rfl⟩,by rw[q_]⟩⟩
 cases z<;>exact Ks λk=>by simp[e,or_comm]
theorem nH{x:Int}{n:Nat}:(decide (x < 0)||decide ((n:Int)<=x))=!isH n x:=by
 rw[Ts];simp[isH]
noncomputable def dueS(n:Nat)(rs:List (Int×Int))(hs:HS)(a b:Int)(l:List Int)(m k:Int):PySem.Str:=if !inZ k [3,4,5]&&!(if inZ k [1,2] then sameB (l.map D.int::wsD hs) else sameB (wsD hs)) then "kin" else if decide (k=6) then "told" else if(if inZ k [0,4,5] then isH n a&&isH n b else isH n a) then(if inZ k [0,5]&&!decide (b∈nbs rs a) then "road" else if decide (k=2)&&!isH hs.length m then "hold" else "told") else "house"
noncomputable abbrev gU(at_:Int)(n:Nat)(rs:List (Int×Int))(hs:HS)(a b:Int)(l:List Int)(m:Int)(x y:Option R):Gm:=[some (.val (.int at_)),some (.val (webD n rs)),some (.val (hsD hs)),some (.val (.int a)),some (.val (.int b)),some (.val (letD l)),some (.val (.int m)),x,y]
theorem P8(W:Web n rs rk)(hl:hs.length<=8):cvF zK [.int at_,webD n rs,hsD hs,.int a,.int b,letD l,.int m]=some (.str (dueS n rs hs a b l m at_)):=by
 unfold dueS;rw[←ms,show(if inZ at_ [0,4,5] then isH n a&&isH n b else isH n a)=(hsZ a b (inZ at_ [0,4,5])).all (isH n) by unfold hsZ;cases inZ at_ [0,4,5]<;>simp];have ls:(szs hs).length=hs.length:=by simp[szs]
 refine ug rfl λKE k1 _=>?_
 rw[AI];show wp _ (gU at_ n rs hs a b l m none none) _;have z1:=MA (Γ:=(gU at_ n rs hs a b l m none none)) hl rfl;have z2:=FY (k:=inZ at_ [1,2]) (x:=.int l.length) (zH (neg:=false) (xs:=[1,2]) (t:=consA (ret (.int 1)) (consA (ret (.int 2)) nilA)) (Γ:=(gU at_ n rs hs a b l m none none)) rfl rfl (by decide)) (fn1E (F:=lenF) (t:=consA (nm 5) nilA) (ds:=[letD l]) rfl (by simp[letD]));have z3:=Ac z1 z2 (by rw[q_];cases inZ at_ [1,2]<;>simp<;>omega);have e3:(szs hs).map D.int++(if inZ at_ [1,2] then[D.int l.length] else[])=(szs hs++if inZ at_ [1,2] then[(l.length:Int)] else[]).map D.int:=by cases inZ at_ [1,2]<;>simp
 have l3:(szs hs++if inZ at_ [1,2] then[(l.length:Int)] else[]).length < 1000:=by cases inZ at_ [1,2]<;>simp<;>omega
 rw[e3] at z3;refine xD z3 rfl ?_;generalize (szs hs++if inZ at_ [1,2] then[(l.length:Int)] else[])=S at k1 l3 ⊢;show wp _ (gU at_ n rs hs a b l m (some (.val (.lst (S.map D.int)))) none) _;refine yb (yD (uC (zH (neg:=true) (xs:=[3,4,5]) rfl rfl (by decide))) (uC (uB (fn1E (d:=.int (metL S).length) rfl (HE l3)) rfl rfl))) (λh=>?_) λh=>?_
 ·rw[if_pos (by exact h)] at k1;exact k1 _ ⟨_,rfl⟩
 rw[if_neg (by rw[WB];exact h)] at k1;refine yb (k:=decide (at_=6)) (uC (uB (c:=.int at_) rfl rfl A1)) (λh=>?_) λh=>?_
 ·rw[if_pos h] at k1;exact k1 _ ⟨_,rfl⟩
 rw[if_neg (by rw[WB];exact h)] at k1;have y2:=FY (k:=inZ at_ [0,4,5]) (x:=.int b) (Y:=nm 4) (zH (neg:=false) (xs:=[0,4,5]) (t:=consA (ret (.int 0)) (consA (ret (.int 4)) (consA (ret (.int 5)) nilA))) (Γ:=(gU at_ n rs hs a b l m (some (.val (.lst (S.map D.int)))) none)) rfl rfl (by decide)) rfl;have y3:=Ac (A:=frz (lstA (consA (nm 3) nilA))) (xs:=[.int a]) rfl y2 (by cases inZ at_ [0,4,5]<;>simp);have e4:[D.int a]++(if inZ at_ [0,4,5] then[D.int b] else[])=(hsZ a b (inZ at_ [0,4,5])).map D.int:=by unfold hsZ;cases inZ at_ [0,4,5]<;>rfl
 have l4:(hsZ a b (inZ at_ [0,4,5])).length<=2:=by unfold hsZ;cases inZ at_ [0,4,5]<;>simp
 rw[e4] at y3;refine xD y3 rfl ?_;generalize hsZ a b (inZ at_ [0,4,5])=H at k1 l4 ⊢;show wp _ (gU at_ n rs hs a b l m (some (.val (.lst (S.map D.int)))) (some (.val (.lst (H.map D.int))))) _;refine yb (HC l4 rfl rfl) (λh=>?_) λh=>?_
 ·rw[if_neg (by simpa using h)] at k1;exact k1 _ ⟨_,rfl⟩
 rw[if_pos (by simpa using h)] at k1
 have rd:op2 (inF true) (tupA (consA (fn1 minF (consA (nm 3) (consA (nm 4) nilA))) (consA (fn1 maxF (consA (nm 3) (consA (nm 4) nilA))) nilA))) (op2 ixF (nm 1) (ret (.int 1))) (gU at_ n rs hs a b l m (some (.val (.lst (S.map D.int)))) (some (.val (.lst (H.map D.int)))))=some (.bl (!decide (b∈nbs rs a)),(gU at_ n rs hs a b l m (some (.val (.lst (S.map D.int)))) (some (.val (.lst (H.map D.int)))))):=by
  refine uB (c:=pairD (mkR a b)) (d:=.tup (rs.map pairD)) ?_ rfl (J0 W);rw[xH];simp[tupA,consA,bnd,fn1,nm,nilA,ret,lft,lim,pairD]
 refine yb (yD (uC (zH (neg:=false) (xs:=[0,5]) rfl rfl (by decide))) (uC rd)) (λh=>?_) λh=>?_
 ·rw[if_pos (by exact h)] at k1;exact k1 _ ⟨_,rfl⟩
 rw[if_neg (by rw[WB];exact h)] at k1;have lH:lenF [hsD hs]=some (.int hs.length):=by simp[hsD]
 have o:=Le (x:=tst (op2 ltI (nm 6) (ret (.int 0)))) (y:=tst (op2 geI (nm 6) (fn1 lenF (consA (nm 2) nilA)))) (Γ:=(gU at_ n rs hs a b l m (some (.val (.lst (S.map D.int)))) (some (.val (.lst (H.map D.int)))))) (uC (uB rfl rfl rfl)) (uC (uB rfl (fn1E rfl lH) rfl));have v:=OM (yD (uC (k:=decide (at_=2)) (uB (c:=.int at_) (x:=nm 0) (y:=ret (.int 2)) rfl rfl A1)) o) (x:=ret (.str "hold")) (y:=ret (.str "told")) rfl rfl;refine⟨_,_,by unfold retS;rw[tR v];rfl,?_⟩;have:=k1 (gU at_ n rs hs a b l m (some (.val (.lst (S.map D.int)))) (some (.val (.lst (H.map D.int))))) ⟨_,rfl⟩;rw[←nH] at this;cases hx:decide (at_=2)&&(decide (m < 0)||decide ((hs.length:Int)<=m)) with
 | true=>rw[hx] at this;exact this
 | false=>rw[hx] at this;exact this
end
section
variable{rk:Int->Nat}{f:Nat}{hs:HS}{a b:Int}{m:Int}{at_:Int}
theorem GO(hl:hs.length<=8)(g3:Γ[3]?=some (some (.val (hsD hs)))):frz (compO 2 (itS (nm 3)) (tgTup 2 (tgCons (tgN 0) (tgCons (tgN 1) tgNil))) (ret true) (nm 1)) Γ=some (.lst ((wsD hs).map D.tup),Γ):=by
 refine t6 ?_;rw[←wX];simp;refine wx hs holdD (λ_=>true) (λp=>wishD p.2) ?_;simp[g3,hsD,holdD];omega
noncomputable def gT(at_:Int)(sp:Bool)(n:Nat)(rs:List (Int×Int))(hs:HS)(a b:Int)(l:List Int)(m:Int)(d:D):Gm:=[some (.val (.int at_)),some (.val (howD sp)),some (.val (webD n rs)),some (.val (hsD hs)),some (.val (.int a)),some (.val (.int b)),some (.val (letD l)),some (.val (.int m)),some (.val d),some (.val (hsD hs)),some (.val (.lst ((wsD hs).map D.tup))),none]
theorem Ju:dep (.lst ((wsD hs).map D.tup))<=100:=by
 rw[←wX,dep];have:=uw (ds:=(hs.map (·.2)).map wishD) (n:=2) λd hd=>by obtain⟨w,_,rfl⟩:=u_.mp hd;exact vz
 omega
theorem Ht{s:PySem.Str}{K:Fl->Gm->Prop}(hl:hs.length<=8)(h:ifV (tst (op2 (isNF false) (nm 8) (ret .non))) (ret (.str "told")) (fn1 (cvF ux) (consA (nm 8) nilA)) (gT at_ sp n rs hs a b l m d)=some (.str s,gT at_ sp n rs hs a b l m d))(k:K (.rt (.val (.str s))) (gT at_ sp n rs hs a b l m d)):wp (seqS (ifS (orT (tst (op2 (eqF true) (nm 9) (nm 3))) (tst (op2 (eqF true) (nm 10) (frz (compO 2 (itS (nm 3)) (tgTup 2 (tgCons (tgN 0) (tgCons (tgN 1) tgNil))) (ret true) (nm 1)))))) (retS (ret (.str "odd"))) (ret .nx)) (retS (ifV (tst (op2 (isNF false) (nm 8) (ret .non))) (ret (.str "told")) (fn1 (cvF ux) (consA (nm 8) nilA))))) (gT at_ sp n rs hs a b l m d) K:=by
 have dh:=Jj (hs:=hs);refine J3 (orE (neE (d:=hsD hs) rfl rfl (by omega)) (neE (d:=.lst ((wsD hs).map D.tup)) rfl (GO hl rfl) Ju)) ?_;exact⟨_,_,by unfold retS;rw[tR h];rfl,k⟩
def TF(x:Option (Nat×Gm))(g:Option (Fl×Gm))(Γ:Gm)(s:PySem.Str):Prop:=(x=none/\g=some (.nx,Γ)/\s = "told")\/∃c,x=some (c,Γ)/\cvF ux [.exc (xNm c) none]=some (.str s)
theorem tU{x y:M Nat}{p q:M Fl}{s:PySem.Str}(h:c Γ=some (false,Γ))(k:TF (y Γ) (q Γ) Γ s):TF (ifX c x y Γ) (ifS c p q Γ) Γ s:=by
 rw[uM h,ye h];exact k
theorem wk{x y:M Nat}{p q:M Fl}{s:PySem.Str}(h:c Γ=some (true,Γ))(k:TF (x Γ) (p Γ) Γ s):TF (ifX c x y Γ) (ifS c p q Γ) Γ s:=by
 rw[uM h,ye h];exact k
theorem vN{F:List D->Option Nat}{o:Option Nat}{g:M Fl}{s:PySem.Str}(e:t Γ=some (ds,Γ))(x:F ds=o)(k:(o=none/\g Γ=some (.nx,Γ)/\s = "told")\/∃c,o=some c/\cvF ux [.exc (xNm c) none]=some (.str s)):TF (fnX F t Γ) (g Γ) Γ s:=by
 unfold TF;rw[tM e,x]
 rcases k with⟨rfl,k⟩ | ⟨c,rfl,k⟩
 ·exact .inl ⟨rfl,k⟩
 ·exact .inr ⟨c,rfl,k⟩
theorem MN{s:PySem.Str}(hl:hs.length<=8)(h:TF (XT (gT at_ sp n rs hs a b l m .non)) (GT (gT at_ sp n rs hs a b l m .non)) (gT at_ sp n rs hs a b l m .non) s):cvF xC [.int at_,howD sp,webD n rs,hsD hs,.int a,.int b,letD l,.int m]=some (.str s):=by
 refine ug rfl λKE k1 _=>?_
 rw[BU];refine sK λK hK _=>?_
 refine⟨_,_,rfl,hK _ ?_⟩;refine sK λK hK _=>?_
 have ls:lstF [hsD hs]=some (hs.map holdD):=by simp[hsD]
 refine⟨_,_,by unfold setV;rw[tR (v7 (ur rfl ls))];rfl,hK _ ?_⟩;refine sK λK hK _=>?_
 refine⟨_,_,by unfold setV;rw[tR (GO hl rfl)];rfl,hK _ ?_⟩;refine sK λK hK _=>?_
 show wp (tryE GT XT 11 8) (gT at_ sp n rs hs a b l m .non) _
 rcases h with⟨h1,h2,rfl⟩ | ⟨c,h1,h2⟩
 ·exact Ln h1 ⟨_,_,h2,hK _ (Ht hl rfl (k1 _ ⟨_,rfl⟩))⟩
 ·exact IM (Γ2:=gT at_ sp n rs hs a b l m (.exc (xNm c) none)) h1 rfl (hK _ (Ht hl (by
  show fn1 (cvF ux) (consA (nm 8) nilA) (gT at_ sp n rs hs a b l m (.exc (xNm c) none))=_
  exact fn1E rfl h2) (k1 _ ⟨_,rfl⟩)))
theorem IG(W:Web n rs rk)(hg:∀p∈hs,∃f,1<=f/\f<=3/\Wf f p.2)(hh:∀p∈hs,0<=p.1/\p.1 < n)(hl:hs.length<=8)(l1:1<=l.length)(l3:l.length<=3)(fa:few9 a)(fb:few9 b)(fm:few9 m)(a0:0<=at_)(a7:at_ < 7):cvF xC [.int at_,howD sp,webD n rs,hsD hs,.int a,.int b,letD l,.int m]=some (.str (dueS n rs hs a b l m at_)):=by
 refine MN hl ?_;unfold dueS
 rcases(show at_=0\/at_=1\/at_=2\/at_=3\/at_=4\/at_=5\/at_=6 by omega) with rfl | rfl | rfl | rfl | rfl | rfl | rfl
 ·refine wk rfl (vN rfl (NP W hl fa fb) ?_);cases h:sameB (wsD hs) with
  | false=>exact .inr ⟨0,rfl,yP⟩
  | true =>
   cases h1:isH n a&&isH n b with
   | false=>exact .inr ⟨1,rfl,wz⟩
   | true =>
    cases h2:decide (b∈nbs rs a) with
    | false=>exact .inr ⟨2,rfl,Ej⟩
    | true =>
     obtain⟨f,f1,f3,hw⟩:=BC hg h;exact .inl ⟨rfl,v8 (v7 (ur rfl (N9 W hw f1 f3 (by omega) ((W.nb a b).mp (of_decide_eq_true h2))))),rfl⟩
 ·refine tU rfl (wk rfl (vN rfl (FM hl fa) ?_));cases h:sameB (l.map D.int::wsD hs) with
  | false=>exact .inr ⟨0,rfl,yP⟩
  | true =>
   cases h1:isH n a with
   | false=>exact .inr ⟨1,rfl,wz⟩
   | true =>
    have hb:=uN.mp h1;exact .inl ⟨rfl,v8 (ur rfl (Bk W (B7 hg h) l1 l3 (by omega) rfl hb.1 hb.2)),rfl⟩
 ·refine tU rfl (tU rfl (wk rfl (vN rfl (K' W hg hh hl l1 l3 fa fm) ?_)));cases h:sameB (l.map D.int::wsD hs) with
  | false=>exact .inr ⟨0,rfl,yP⟩
  | true =>
   cases h1:isH n a with
   | false=>exact .inr ⟨1,rfl,wz⟩
   | true =>
    cases h2:isH hs.length m with
    | false=>exact .inr ⟨4,rfl,LP⟩
    | true =>
     have hb:=uN.mp h1;have mb:=uN.mp h2;obtain⟨i,rfl⟩:∃i:Nat,m=(i:Int):=⟨m.toNat,by omega⟩;exact .inl ⟨rfl,EZ rfl (xL (Nk W (B7 hg h) hh l1 l3 hl rfl hb.1 hb.2 (show i < hs.length by omega))),rfl⟩
 ·refine tU rfl (tU rfl (tU rfl (wk rfl (vN rfl (Ib fa) ?_))));cases h1:isH n a with
  | false=>exact .inr ⟨1,rfl,wz⟩
  | true =>
   have hb:=uN.mp h1;exact .inl ⟨rfl,v8 (v7 (ur rfl (vJ W hb.1 hb.2))),rfl⟩
 ·refine tU rfl (tU rfl (tU rfl (tU rfl (wk rfl (vN rfl (Dj fa fb) ?_)))));cases h1:isH n a&&isH n b with
  | false=>exact .inr ⟨1,rfl,wz⟩
  | true =>
   rw[J_] at h1;have ha:=uN.mp h1.1;have hb:=uN.mp h1.2;exact .inl ⟨rfl,EZ rfl (xL (GP W ha.1 ha.2 hb.1 hb.2)),rfl⟩
 ·refine tU rfl (tU rfl (tU rfl (tU rfl (tU rfl (wk rfl (vN rfl (Nu W fa fb) ?_))))));cases h1:isH n a&&isH n b with
  | false=>exact .inr ⟨1,rfl,wz⟩
  | true =>
   cases h2:decide (b∈nbs rs a) with
   | false=>exact .inr ⟨2,rfl,Ej⟩
   | true=>exact .inl ⟨rfl,v8 (v7 (ur rfl (HU W ((W.nb a b).mp (of_decide_eq_true h2))))),rfl⟩
 ·refine tU rfl (tU rfl (tU rfl (tU rfl (tU rfl (tU rfl (vN rfl (PH hg hl) ?_))))));cases h:sameB (wsD hs) with
  | false=>exact .inr ⟨0,rfl,yP⟩
  | true =>
   obtain⟨f,f1,f3,hw⟩:=BC hg h;have t:=GX (sp:=sp) (ws:=hs.map (·.2)) (λu hu=>by obtain⟨p,hp,rfl⟩:=u_.mp hu;exact hw p hp) f1 f3 (by rw[q_];omega);rw[wX] at t;exact .inl ⟨rfl,v8 (v7 (ur rfl t)),rfl⟩
end
theorem vK{g:List R->Option (R×List R)}{c:List D}{QD:D->Gm->Prop}(hj:Γ[j]?=some (some (.own c)))(ht:t Γ=some (ds,Γ))(k:wpB g c ds λr c'=>∃d,r=.val d/\QD d (Γ.set j (some (.own c')))):wp (cbV j g t) Γ QD:=by
 obtain⟨r,c',e1,d,rfl,k⟩:=k
 have e2:callB j g t Γ=some (.val d,Γ.set j (some (.own c'))):=by
  unfold callB mutS;have:isMut Γ j=true:=by unfold isMut;rw[hj];rfl
  rw[this];simp only[bnd,ht,hj,e1,if_true]
 exact⟨d,_,by simp[cbV,bnd,lft,asV,e2],k⟩
section
variable{rk:Int->Nat}{f:Nat}{hs:HS}{c:List D}
noncomputable def farZ(n:Nat):List Int:=[-1,n,10 ^ 30,0 - n]
noncomputable def allZ(n:Nat):List Int:=rngZ n++(rngZ n++rngZ n)++farZ n
theorem Mo(n8:n<=8){x:Int}(h:x∈allZ n):few9 x:=by
 have r:∀x∈rngZ n,0<=x/\x < n:=λx hx=>by
  obtain⟨k,hk,rfl⟩:=u_.mp hx;have:=SY.mp hk;omega
 have:-(10 ^ 30)<=x/\x<=10 ^ 30:=by
  simp[allZ,farZ] at h
  rcases h with h | h | h | h
  ·have:=r x h;omega
  ·omega
  ·omega
  ·omega
 exact xB this
theorem DV{Q:D->Gm->Prop}(n1:1<=n)(n8:n<=8)(hc:PotOk c)(g1:Γ[1]?=some (some (.own c)))(g5:Γ[5]?=some (some (.val (webD n rs))))(g7:Γ[7]?=some (some (.val (.lst ((farZ n).map D.int)))))(k:∀x c',few9 x->PotOk c'->Q (.int x) (Γ.set 1 (some (.own c')))):wp (op2 ixF (frz (op2 catF (frz (op2 timesF (frz (fn1 rngI1 (consA (op2 ixF (nm 5) (ret (.int 0))) nilA))) (ret (.int 3)))) (nm 7))) (cbV 1 tE (consA (op2 addF (op2 mulI (ret (.int 3)) (op2 ixF (nm 5) (ret (.int 0)))) (ret (.int 4))) nilA))) Γ Q:=by
 have lr:(rngZ n).length=n:=by simp[rngZ]
 have e1:frz (fn1 rngI1 (consA (op2 ixF (nm 5) (ret (.int 0))) nilA)) Γ=some (.lst ((rngZ n).map D.int),Γ):=by
  refine t6 ?_;simp[g5,webD,←Gd];omega
 have e2:frz (op2 timesF (frz (fn1 rngI1 (consA (op2 ixF (nm 5) (ret (.int 0))) nilA))) (ret (.int 3))) Γ=some (.lst ((rngZ n++(rngZ n++rngZ n)).map D.int),Γ):=by
  have:timesF (.lst ((rngZ n).map D.int)) (.int 3)=some ((rngZ n++(rngZ n++rngZ n)).map D.int):=by
   refine(if_pos ⟨by decide,by decide,by rw[q_];omega⟩).trans ?_;simp[F_,Vr]
  exact v7 (uB e1 rfl this)
 have e3:=Ac (Y:=nm 7) (ys:=(farZ n).map D.int) e2 (by simp[nm,g7]) (by simp[lr,farZ];omega);rw[←Vr] at e3
 change _=some (D.lst ((allZ n).map D.int),Γ) at e3
 have la:(allZ n).length=3*n+4:=by simp[allZ,farZ,lr];omega
 refine xh.mpr ⟨_,_,e3,?_⟩;refine vK (ds:=[.int (3*n+4)]) g1 (by refine t6 ?_;simp[g5,webD]) (tP hc (by omega) (by omega) λz c' z0 z1 aW=>⟨_,rfl,?_⟩);obtain⟨x,hx,ex⟩:=xK (f:=D.int) (xs:=allZ n) z0 (by rw[la];omega);show wp (lft (atI _ z)) _ _;rw[ex];exact⟨_,_,rfl,k x c' (Mo n8 hx) aW⟩
theorem Ma(g5:Γ[5]?=some (some (.val (webD n rs)))):frz (lstA (consA (un1 negI (ret (.int 1))) (consA (op2 ixF (nm 5) (ret (.int 0))) (consA (op2 powI (ret (.int 10)) (ret (.int 30))) (consA (op2 subI (ret (.int 0)) (op2 ixF (nm 5) (ret (.int 0)))) nilA))))) Γ=some (.lst ((farZ n).map D.int),Γ):=by
 refine t6 ?_;simp[g5,webD,farZ]
end
theorem JF{xs:List D}:deq (.tup xs) (.tup [])=xs.isEmpty:=by cases xs<;>simp[deq,deqA]
section
variable{rk:Int->Nat}{f:Nat}{hs:HS}{c:List D}{x0 x2 x9 bY bZ bP bN bH bA bx ba bc:Option R}{kk:Int}
noncomputable def oL(f:Nat):List Int:=[f,f,1+(f:Int) % 3,1+((f:Int)+1) % 3]
theorem FC(f1:1<=f)(f3:f<=3):∀x∈oL f,∃g:Nat,x=g/\1<=g/\g<=3:=λx hx=>by
 have:1<=x/\x<=3:=by
  simp[oL] at hx;omega
 exact⟨x.toNat,by omega,by omega,by omega⟩
noncomputable abbrev gA(x0:Option R)(c:List D)(x2:Option R)(f:Nat)(r:List (Option R)):Gm:=x0::some (.own c)::x2::some (.val (.int f))::some (.val (.lst ((oL f).map D.int)))::r
noncomputable abbrev gP(x0:Option R)(c:List D)(x2:Option R)(f n:Nat)(rs:List (Int×Int))(hs:HS)(kk:Int)(r:List (Option R)):Gm:=gA x0 c x2 f (some (.val (webD n rs))::some (.val (hsD hs))::some (.val (.lst ((farZ n).map D.int)))::some (.val (.int kk))::r)
noncomputable abbrev gQ(x0:Option R)(c:List D)(x2:Option R)(f n:Nat)(rs:List (Int×Int))(hs:HS)(kk:Int)(sp:Bool)(a b:Int)(z:Nat)(y:Int)(w:List (Int×Int))(r:List (Option R)):Gm:=gP x0 c x2 f n rs hs kk (some (.val (howD sp))::some (.val (.int a))::some (.val (.int b))::some (.val (.int (z:Int)))::some (.val (.lst [holdD (y,w)]))::r)
theorem sl_t{z:Nat}(g:Γ[6]?=some (some (.val (hsD hs))))(h:Γ[12]?=some (some (.val (.int z)))):sl3 slF (nm 6) (ret none) (prt (nm 12)) Γ=some (.lst ((hs.take z).map holdD),Γ):=by
 have ct:cutD (hs.map holdD) none (some (z:Int))=(hs.take z).map holdD:=by rw[map_take];exact Dr (n:=z)
 refine t6 ?_;simp[g,h,hsD,ct]
theorem sl_d{z:Nat}(g:Γ[6]?=some (some (.val (hsD hs))))(h:Γ[12]?=some (some (.val (.int z)))):sl3 slF (nm 6) (prt (nm 12)) (ret none) Γ=some (.lst ((hs.drop z).map holdD),Γ):=by
 have cd:cutD (hs.map holdD) (some (z:Int)) none=(hs.drop z).map holdD:=by rw[map_drop];exact Bi (n:=z)
 refine t6 ?_;simp[g,h,hsD,cd]
theorem Ie(g:Γ[5]?=some (some (.val (webD n rs)))):tst (op2 (eqF true) (op2 ixF (nm 5) (ret (.int 1))) (tupA nilA)) Γ=some (!rs.isEmpty,Γ):=by
 have dr:=uw (ds:=rs.map pairD) (n:=1) λd hd=>by obtain⟨r,_,rfl⟩:=u_.mp hd;exact zp
 refine uC (uB (c:=.tup (rs.map pairD)) (d:=.tup []) (uB (c:=webD n rs) (d:=.int 1) (by simp[nm,g]) rfl rfl) rfl ?_);unfold eqF;rw[if_pos ⟨by rw[dep];omega,by decide⟩,JF,List.isEmpty_map];rfl
theorem Nd(W:Web n rs rk)(hw:∀p∈hs,Wf f p.2)(hh:∀p∈hs,0<=p.1/\p.1 < n)(hl:hs.length<=4)(f1:1<=f)(f3:f<=3)(k0:0<=kk)(hc:PotOk c){K:Fl->Gm->Prop}(aI:∀c x9 bY bZ bP bN bH bA bx ba bc,PotOk c->K .nx (gP x0 c x2 f n rs hs kk [x9,bY,bZ,bP,bN,bH,bA,bx,ba,bc])):wp bdy (gP x0 c x2 f n rs hs kk [x9,bY,bZ,bP,bN,bH,bA,bx,ba,bc]) K:=by
 have n1:=W.n1;have n8:=W.n8;unfold bdy;refine sK ?_;rintro K1 hK -;simp only[u3];refine xh.mpr ⟨.lst [.str "roof", .str "spare"],_,rfl,vK (ds:=[.int 2]) rfl rfl (tP hc (by omega) (by omega) λz c z0 z1 hc=>⟨_,rfl,?_⟩)⟩
 obtain⟨sp,es⟩:∃sp,atI [D.str "roof", D.str "spare"] z=some (howD sp):=by
  rcases(show z=0\/z=1 by omega) with rfl | rfl
  ·exact⟨false,rfl⟩
  ·exact⟨true,rfl⟩
 show wp (lft (atI _ z)) _ _;rw[es];refine⟨_,_,rfl,by simp,hK _ ?_⟩;clear hK es;show wp _ (gP x0 c x2 f n rs hs kk [some (.val (howD sp)),bY,bZ,bP,bN,bH,bA,bx,ba,bc]) _;refine sK ?_;rintro K1 hK -;simp only[u3];refine DV n1 n8 hc rfl rfl rfl λa c fa hc=>?_
 refine⟨by simp,hK _ ?_⟩;refine sK ?_;rintro K1 hK -;simp only[u3];refine DV n1 n8 hc rfl rfl rfl λb c fb hc=>?_
 refine⟨by simp,hK _ ?_⟩;show wp _ (gP x0 c x2 f n rs hs kk [some (.val (howD sp)),some (.val (.int a)),some (.val (.int b)),bP,bN,bH,bA,bx,ba,bc]) _;refine wF (λΓ=>∃c a b,PotOk c/\few9 a/\few9 b/\Γ=(gP x0 c x2 f n rs hs kk [some (.val (howD sp)),some (.val (.int a)),some (.val (.int b)),bP,bN,bH,bA,bx,ba,bc])) ?_ ?_
 ·rintro K1 hK -;have t2:=yD (Ie (rs:=rs) (Γ:=gP x0 c x2 f n rs hs kk [some (.val (howD sp)),some (.val (.int a)),some (.val (.int b)),bP,bN,bH,bA,bx,ba,bc]) rfl) (uC (uB (y:=ret (.int 0)) (uB (F:=modI) (x:=nm 8) (y:=ret (.int 2)) (c:=.int kk) (d:=.int 2) (e:=.int (kk % 2)) rfl rfl rfl) rfl A1));refine zx.mpr ⟨_,_,t2,?_⟩;dsimp only;by_cases q:(!rs.isEmpty&&decide (kk % 2=0))=true
  ·rw[if_pos q];rw[J_,UD,List.isEmpty_eq_false_iff] at q;have lr:=U9.mpr q.1;have sA:=W.rs_len;simp only[Nh];refine xh.mpr ⟨.tup (rs.map pairD),_,rfl,vK (ds:=[.int rs.length]) rfl (by refine t6 ?_;simp[webD]) (tP hc (by omega) (by omega) λz c z0 z1 hc=>⟨_,rfl,?_⟩)⟩;obtain⟨r,hr,er⟩:=xK (f:=pairD) (xs:=rs) z0 (by omega);show wp (lft (atI _ z)) _ _;rw[er];have lt:=W.lt r hr;exact⟨_,_,rfl,_,_,rfl,hK _ ⟨c,r.1,r.2,hc,xB (by omega),xB (by omega),rfl⟩⟩
  ·rw[if_neg q];exact⟨_,_,rfl,hK _ ⟨c,a,b,hc,fa,fb,rfl⟩⟩
 clear fa fb hc a b c;rintro Γ ⟨c,a,b,hc,fa,fb,rfl⟩;refine sK ?_;rintro K1 hK -;have lH:lenF [hsD hs]=some (.int hs.length):=by simp[hsD]
 simp only[u3];refine vK (ds:=[.int (hs.length+1)]) rfl (by refine t6 ?_;simp[lH]) (tP hc (by omega) (by omega) λz c z0 z1 hc=>⟨_,rfl,?_⟩);refine⟨by simp,hK _ ?_⟩;obtain⟨z,rfl⟩:∃y:Nat,z=(y:Int):=⟨z.toNat,by omega⟩;show wp _ (gP x0 c x2 f n rs hs kk [some (.val (howD sp)),some (.val (.int a)),some (.val (.int b)),some (.val (.int (z:Int))),bN,bH,bA,bx,ba,bc]) _;refine sK ?_;rintro K1 hK -;simp[isMut,R.mut,webD];refine tP hc (by omega) (by omega) λy c y0 y1 hc=>?_
 simp[isMut,R.mut];refine tP hc (by omega) (by omega) λo c o0 o1 hc=>?_
 obtain⟨ov,ho,eo⟩:=xK (f:=D.int) (xs:=oL f) o0 (by simp[oL];omega);obtain⟨g,rfl,g1,g3⟩:=FC f1 f3 _ ho;simp[eo];refine FN hc (by omega) (by omega) (by omega) (by omega) λw c ww hc=>?_
 simp;refine hK _ ?_;have lt:(hs.take z).length<=4:=by rw[Um];omega
 have ld:(hs.drop z).length<=4:=by rw[TH];omega
 show wp _ (gQ x0 c x2 f n rs hs kk sp a b z y w [bH,bA,bx,ba,bc]) _;refine wF (λΓ=>∃(c:List D) (bQ:HS),PotOk c/\(∀p∈bQ,∃f,1<=f/\f<=3/\Wf f p.2)/\(∀p∈bQ,0<=p.1/\p.1 < (n:Int))/\bQ.length<=8/\Γ=(gQ x0 c x2 f n rs hs kk sp a b z y w [some (.val (hsD bQ)),bA,bx,ba,bc])) ?_ ?_
 ·rintro K1 hK -;simp only[u3,DB,xh];refine⟨_,_,sl_t rfl rfl,_,_,rfl,vK (ds:=[.int 2]) rfl rfl (tP hc (by omega) (by omega) λt c t0 t1 hc=>⟨_,rfl,?_⟩)⟩
  obtain⟨fs,lf,hf,ef⟩:∃fs:HS,fs.length<=1/\(∀p∈fs,p=(y,w))/\timesF (.lst [holdD (y,w)]) (.int t)=some (fs.map holdD):=by
   rcases(show t=0\/t=1 by omega) with rfl | rfl
   ·exact⟨[],by simp,(λp hp=>by cases hp),rfl⟩
   ·exact⟨[(y,w)],by simp,(λp hp=>s_.mp hp),rfl⟩
  rw[ef]
  have c1:catF (.lst ((hs.take z).map holdD)) (.lst (fs.map holdD))=some ((hs.take z++fs).map holdD):=by
   rw[Vr];exact if_pos (by rw[q_,q_];unfold lim;omega)
  have c2:catF (.lst ((hs.take z++fs).map holdD)) (.lst ((hs.drop z).map holdD))=some ((hs.take z++fs++hs.drop z).map holdD):=by
   rw[Vr (l₁:=hs.take z++fs)];exact if_pos (by rw[q_,q_,v_];unfold lim;omega)
  refine⟨_,_,rfl,_,_,by rw[c1];rfl,_,_,sl_d rfl rfl,_,_,by rw[c2];rfl,by simp,hK _ ⟨c,hs.take z++fs++hs.drop z,hc,λp hp=>?_,λp hp=>?_,?_,rfl⟩⟩
  ·rcases P_.mp hp with hp | hp
   ·rcases P_.mp hp with hp | hp
    ·exact⟨f,f1,f3,hw p (SQ hp)⟩
    ·rw[hf p hp];exact⟨g,g1,g3,ww⟩
   ·exact⟨f,f1,f3,hw p (Ue hp)⟩
  ·rcases P_.mp hp with hp | hp
   ·rcases P_.mp hp with hp | hp
    ·exact hh p (SQ hp)
    ·rw[hf p hp];exact⟨y0,y1⟩
   ·exact hh p (Ue hp)
  ·rw[v_,v_,Um,TH];omega
 rintro Γ ⟨c,bQ,hc,ei,rh,oN,rfl⟩;clear lt ld;refine sK ?_;rintro K1 hK -;simp;obtain⟨J,hJ⟩:∃J:Nat->List D->Gm->Prop,∀i ag Γ,J i ag Γ↔∃(c:List D) (l:List Int),PotOk c/\ag=l.map D.int/\l.length=i/\Γ=(gQ x0 c x2 f n rs hs kk sp a b z y w [some (.val (hsD bQ)),bA,bx,ba,bc]):=⟨_,λ_ _ _=>Iff.rfl⟩;refine B6 J ?_;simp[isMut,R.mut];refine tP hc (by omega) (by omega) λo c o0 o1 hc=>?_
 obtain⟨ov,ho,eo⟩:=xK (f:=D.int) (xs:=oL f) o0 (by simp[oL];omega);obtain⟨lf,rfl,l1,l3⟩:=FC f1 f3 _ ho;simp[eo];refine⟨by omega,by omega,(hJ _ _ _).mpr ⟨c,[],hc,rfl,rfl,rfl⟩,?_,?_⟩
 ·intro i d ag Γ2 hd j;obtain⟨c4,l,hc,rfl,hi,rfl⟩:=(hJ _ _ _).mp j;simp[isMut,R.mut];refine tP hc (by omega) (by omega) λx c5 jU md hc=>?_
  simp;exact⟨_,_,⟨rfl,rfl⟩,(hJ _ _ _).mpr ⟨c5,l++[x],hc,by simp,by simp[hi],rfl⟩⟩
 ·intro ag Γ2 j;obtain⟨c4,l,hc,rfl,hi,rfl⟩:=(hJ _ _ _).mp j;clear hJ j;simp;refine hK _ ?_;show wp _ (gQ x0 c4 x2 f n rs hs kk sp a b z y w [some (.val (hsD bQ)),some (.val (letD l)),bx,ba,bc]) _;have oO:lenF [hsD bQ]=some (.int bQ.length):=by simp[hsD]
  refine sK ?_;rintro K1 hK -;simp only[u3,xh,DB,Mq,Ol];refine vK (ds:=[.int (max 1 (bQ.length:Int))]) rfl (by refine t6 ?_;simp[oO]) (tP hc (by omega) (by omega) λu c u0 u1 hc=>⟨_,rfl,?_⟩);refine⟨_,_,rfl,_,_,fn1E rfl oO,_,_,rfl,_,_,rfl,_,_,rfl,_,_,rfl,_,_,rfl,vK (ds:=[.int 4]) rfl rfl (tP hc (by omega) (by omega) λv c v0 v1 hc=>⟨_,rfl,?_⟩)⟩;obtain⟨m,hm,em⟩:=xK (f:=D.int) (xs:=[u,-1,(bQ.length:Int),10 ^ 30]) v0 (by simp;omega)
  have fm:few9 m:=by
   refine xB ?_;simp at hm;omega
  show wp (lft (atI ([u,-1,(bQ.length:Int),10 ^ 30].map D.int) v)) _ _;rw[em];refine⟨_,_,rfl,by simp,hK _ ?_⟩;show wp _ (gQ x0 c x2 f n rs hs kk sp a b z y w [some (.val (hsD bQ)),some (.val (letD l)),some (.val (.int m)),ba,bc]) _;simp;refine ud (J:=λi Γ=>∃ba bc,Γ=(gQ x0 c x2 f n rs hs kk sp a b z y w [some (.val (hsD bQ)),some (.val (letD l)),some (.val (.int m)),ba,bc])) ⟨_,_,rfl⟩ ?_ ?_
  ·rintro i d Γ hd ⟨ba,bc,rfl⟩ KL hn - - -;obtain⟨rfl,sB⟩:=yk hd;have du:=P8 (at_:=0+i) (a:=a) (b:=b) (l:=l) (m:=m) W oN;have td:=IG (at_:=0+i) (sp:=sp) (l:=l) W ei rh oN (by omega) (by omega) fa fb fm (by omega) (by omega);refine⟨_,_,rfl,?_⟩;refine xD (fn1E rfl du) rfl ?_;refine zx.mpr ⟨false,_,neE (fn1E rfl td) rfl (by simp[dep]),?_⟩;exact⟨_,_,rfl,hn _ ⟨_,_,rfl⟩⟩
  ·rintro Γ ⟨ba,bc,rfl⟩;exact aI _ _ _ _ _ _ _ _ _ _ _ hc
end
theorem law_true(ns:List Int)(gM:ns.length<=63):∃rs,vI [.val (.lst (ns.map D.int))]=some (.val (.bl true),rs):=by
 have bq:wpF vI [.val (.lst (ns.map D.int))] λr _=>r=.val (.bl true):=by
  refine uP rfl λKE hE _=>?_
  rw[Cf];refine sK ?_;rintro K hK -;obtain⟨c,hc,hp⟩:=IC ns;simp[hc];refine hK _ ?_;refine sK ?_;rintro K hK hR;simp;refine ud (J:=λi Γ=>∃x0 c x2 x3 x4 x5 x6 x7 x8 x9 bY bZ bP bN bH bA bx ba bc,PotOk c/\Γ=[x0,some (.own c),x2,x3,x4,x5,x6,x7,x8,x9,bY,bZ,bP,bN,bH,bA,bx,ba,bc]) ⟨_,c,_,_,_,_,_,_,_,_,_,_,_,_,_,_,_,_,_,hp,rfl⟩ ?_ ?_
  ·rintro i d Γ - ⟨x0,c,x2,x3,x4,x5,x6,x7,x8,x9,bY,bZ,bP,bN,bH,bA,bx,ba,bc,hc,rfl⟩ KL aI - - -;clear hK hR hE hp;refine⟨_,_,rfl,?_⟩;show wp _ [x0,some (.own c),some (.val d),x3,x4,x5,x6,x7,x8,x9,bY,bZ,bP,bN,bH,bA,bx,ba,bc] _;refine sK ?_;rintro K hK -;simp[isMut,R.mut];refine tP hc (by omega) (by omega) λf0 c sC sD hc=>?_
   obtain⟨f,hf⟩:∃f:Nat,1+f0=f:=⟨(1+f0).toNat,by omega⟩;simp[hf];refine hK _ ?_;show wp _ [x0,some (.own c),some (.val d),some (.val (.int f)),x4,x5,x6,x7,x8,x9,bY,bZ,bP,bN,bH,bA,bx,ba,bc] _;refine xD (d:=.lst ((oL f).map D.int)) rfl rfl ?_;refine sK ?_;rintro K hK -;simp[isMut,R.mut];refine Mw hc (by omega) (by omega) λn rs rk c W hc=>?_
   simp;refine hK _ ?_;have n1:=W.n1;have n8:=W.n8;show wp _ (gA x0 c (some (.val d)) f [some (.val (webD n rs)),x6,x7,x8,x9,bY,bZ,bP,bN,bH,bA,bx,ba,bc]) _;refine sK ?_;rintro K hK -;simp;obtain⟨J,hJ⟩:∃J:Nat->List D->Gm->Prop,∀i ag Γ,J i ag Γ↔∃(c:List D) (hs:HS),PotOk c/\ag=hs.map holdD/\(∀p∈hs,Wf f p.2)/\(∀p∈hs,0<=p.1/\p.1 < (n:Int))/\hs.length=i/\Γ=(gA x0 c (some (.val d)) f [some (.val (webD n rs)),x6,x7,x8,x9,bY,bZ,bP,bN,bH,bA,bx,ba,bc]):=⟨_,λ_ _ _=>Iff.rfl⟩;refine B6 J ?_;simp[isMut,R.mut];refine tP hc (by omega) (by omega) λq c q0 q1 hc=>?_
   simp;refine⟨by omega,by omega,(hJ _ _ _).mpr ⟨c,[],hc,rfl,by simp,by simp,rfl,rfl⟩,?_,?_⟩
   ·intro i d ag Γ2 hd j;obtain⟨c4,hs,hc,rfl,hw,hh,hi,rfl⟩:=(hJ _ _ _).mp j;simp[isMut,R.mut];refine tP hc (by omega) (by omega) λx c5 jU md hc=>?_
    simp[isMut,R.mut];refine FN hc (by omega) (by omega) (by omega) (by omega) λw c6 ww hc=>?_
    simp;refine⟨_,_,⟨rfl,rfl⟩,(hJ _ _ _).mpr ⟨c6,hs++[(x,w)],hc,by simp[holdD],λp hp=>?_,λp hp=>?_,by simp[hi],rfl⟩⟩
    ·rcases P_.mp hp with hp | hp
     ·exact hw p hp
     ·rw[s_.mp hp];exact ww
    ·rcases P_.mp hp with hp | hp
     ·exact hh p hp
     ·rw[s_.mp hp];exact⟨jU,md⟩
   ·intro ag Γ2 j;obtain⟨c4,hs,hc,rfl,hw,hh,hi,rfl⟩:=(hJ _ _ _).mp j;clear hJ j;simp;refine hK _ ?_;show wp _ (gA x0 c4 (some (.val d)) f [some (.val (webD n rs)),some (.val (hsD hs)),x7,x8,x9,bY,bZ,bP,bN,bH,bA,bx,ba,bc]) _;refine xD (Ma rfl) rfl ?_;show wp (forS _ _ bdy) (gA x0 c4 (some (.val d)) f [some (.val (webD n rs)),some (.val (hsD hs)),some (.val (.lst ((farZ n).map D.int))),x8,x9,bY,bZ,bP,bN,bH,bA,bx,ba,bc]) _;simp;refine ud (J:=λi Γ=>∃c x8 x9 bY bZ bP bN bH bA bx ba bc,PotOk c/\Γ=(gA x0 c (some (.val d)) f [some (.val (webD n rs)),some (.val (hsD hs)),some (.val (.lst ((farZ n).map D.int))),x8,x9,bY,bZ,bP,bN,bH,bA,bx,ba,bc])) ⟨c4,_,_,_,_,_,_,_,_,_,_,_,hc,rfl⟩ ?_ ?_
    ·rintro i d2 Γ hd ⟨c,x8,x9,bY,bZ,bP,bN,bH,bA,bx,ba,bc,hc,rfl⟩ sE je - - -;obtain⟨rfl,sF⟩:=yk hd;refine⟨_,_,rfl,?_⟩;exact Nd W hw hh (by omega) (by omega) (by omega) (by omega) hc λc x9 bY bZ bP bN bH bA bx ba bc hc=>je _ ⟨c,_,_,_,_,_,_,_,_,_,_,_,hc,rfl⟩
    ·rintro Γ ⟨c,x8,x9,bY,bZ,bP,bN,bH,bA,bx,ba,bc,hc,rfl⟩;exact aI _ ⟨_,c,_,_,_,_,_,_,_,_,_,_,_,_,_,_,_,_,_,hc,rfl⟩
  ·rintro Γ ⟨x0,c,x2,x3,x4,x5,x6,x7,x8,x9,bY,bZ,bP,bN,bH,bA,bx,ba,bc,hc,rfl⟩;refine hK _ ?_;exact⟨_,_,rfl,hE _ _ ⟨_,rfl,rfl⟩⟩
 obtain⟨r,bi,e,rfl⟩:=bq;exact⟨bi,e⟩
end Own
namespace PySem.W.Fast
theorem tw2205836513515411247:True:=⟨⟩
theorem tw17482483124869270126:True:=⟨⟩
theorem tw10718259499945277236:True:=⟨⟩
theorem tw10277817105337488460:True:=⟨⟩
theorem tw2696350688129567451:True:=⟨⟩
theorem tw4657539173361015968:True:=⟨⟩
theorem tw13072137567429494070:True:=⟨⟩
theorem tw15246651055049752833:True:=⟨⟩
theorem tw15414424426199903728:True:=⟨⟩
theorem tw7664050371880784920:True:=⟨⟩
theorem tw758998558155276553:True:=⟨⟩
theorem tw2162082101722573078:True:=⟨⟩
theorem tw227800916543820978:True:=⟨⟩
theorem tw12842366315788166175:True:=⟨⟩
theorem tw17088333793096869287:True:=⟨⟩
theorem tw6596167294254951063:True:=⟨⟩
theorem tw12519912974310193308:True:=⟨⟩
theorem tw7235808781328894510:True:=⟨⟩
theorem tw187521106463817874:True:=⟨⟩
theorem tw11484963070495255649:True:=⟨⟩
theorem tw8997744140228940461:True:=⟨⟩
theorem tw9712207326255489370:True:=⟨⟩
theorem tw16544855658008346733:True:=⟨⟩
theorem tw9220317813784547548:True:=⟨⟩
theorem tw17642688956858021348:True:=⟨⟩
theorem tw17862604893132665911:True:=⟨⟩
theorem tw1047571358204667469:True:=⟨⟩
theorem tw10558744232971901678:True:=⟨⟩
theorem tw973272888872638982:True:=⟨⟩
theorem tw17836136907237061712:True:=⟨⟩
theorem tw14633461945443241776:True:=⟨⟩
theorem tw7214422982278191061:True:=⟨⟩
theorem tw8458849345015079567:True:=⟨⟩
theorem tw17058190636990963948:True:=⟨⟩
theorem tw11693316392772201189:True:=⟨⟩
theorem tw12657553873890006800:True:=⟨⟩
theorem tw10125702370962539304:True:=⟨⟩
theorem tw16574587415128911752:True:=⟨⟩
theorem tw9725333165264106115:True:=⟨⟩
theorem tw6339234640836646331:True:=⟨⟩
theorem tw4789955380685550129:True:=⟨⟩
theorem tw6229667772993936243:True:=⟨⟩
theorem tw4767194063916597548:True:=⟨⟩
theorem tw8941577797901685920:True:=⟨⟩
theorem tw13510840215755046459:True:=⟨⟩
theorem tw2039879025683439579:True:=⟨⟩
theorem tw13664247109693503388:True:=⟨⟩
theorem tw296357852299998793:True:=⟨⟩
theorem tw1284312740213835756:True:=⟨⟩
theorem tw15071201455007171299:True:=⟨⟩
theorem tw3451843365230305846:True:=⟨⟩
theorem tw18049968874443930016:True:=⟨⟩
theorem tw17005011441007754489:True:=⟨⟩
theorem tw718092672468753174:True:=⟨⟩
theorem tw236812023027689407:True:=⟨⟩
theorem tw4706711264250756685:True:=⟨⟩
theorem tw10925474567690135943:True:=⟨⟩
theorem tw3039205185454228920:True:=⟨⟩
theorem tw15801651524106213755:True:=⟨⟩
theorem tw12285112844134034752:True:=⟨⟩
theorem tw7836763043259488677:True:=⟨⟩
theorem tw18274676082647350478:True:=⟨⟩
theorem tw7018887219679491102:True:=⟨⟩
theorem tw4872611850570511632:True:=⟨⟩
theorem tw9567802993423207935:True:=⟨⟩
theorem tw5093009955319501115:True:=⟨⟩
theorem tw17261145709262746758:True:=⟨⟩
theorem tw14550751501571226825:True:=⟨⟩
theorem tw4921191292649505127:True:=⟨⟩
theorem tw16836610086226502333:True:=⟨⟩
theorem tw3340311424015530695:True:=⟨⟩
theorem tw10618223121019998420:True:=⟨⟩
theorem tw13717748890428513583:True:=⟨⟩
theorem tw7540899848431645467:True:=⟨⟩
theorem tw1099692819460556716:True:=⟨⟩
theorem tw14205436428294536989:True:=⟨⟩
theorem tw15487148987951242343:True:=⟨⟩
theorem tw10204424003558412273:True:=⟨⟩
theorem tw4050928417107840688:True:=⟨⟩
theorem tw3866170770488984627:True:=⟨⟩
theorem tw8432835866747928914:True:=⟨⟩
theorem tw11649925950853963890:True:=⟨⟩
theorem tw8450552390142570606:True:=⟨⟩
theorem tw18373300254808388013:True:=⟨⟩
theorem tw16770581335793901703:True:=⟨⟩
theorem tw14086632948520049451:True:=⟨⟩
theorem tw10869422108021367844:True:=⟨⟩
theorem tw16560601003183682256:True:=⟨⟩
theorem tw5825227532020658795:True:=⟨⟩
theorem tw12016843282815323069:True:=⟨⟩
theorem tw15764824736157498194:True:=⟨⟩
theorem tw5525941190781159881:True:=⟨⟩
theorem tw5176180696439828194:True:=⟨⟩
theorem tw1698675762374307882:True:=⟨⟩
theorem tw10962943582584206375:True:=⟨⟩
theorem tw7202751293166479694:True:=⟨⟩
theorem tw12483826030533196189:True:=⟨⟩
theorem tw15803513225792015149:True:=⟨⟩
theorem tw10366371838488485666:True:=⟨⟩
theorem tw8378757011727571068:True:=⟨⟩
theorem tw9553255181950933907:True:=⟨⟩
theorem tw4153073781780916693:True:=⟨⟩
theorem tw3717983624150361798:True:=⟨⟩
theorem tw11902387111524858423:True:=⟨⟩
theorem tw11572524593163736582:True:=⟨⟩
theorem tw443860655028215052:True:=⟨⟩
theorem tw14437644750684863041:True:=⟨⟩
theorem tw14738682761658728915:True:=⟨⟩
theorem tw3058569790890873868:True:=⟨⟩
theorem tw12943219415931367871:True:=⟨⟩
theorem tw12683601579708058886:True:=⟨⟩
theorem tw5091754154344960882:True:=⟨⟩
theorem tw13769868501628647168:True:=⟨⟩
theorem tw4393039293667996426:True:=⟨⟩
theorem tw17560368586055151586:True:=⟨⟩
theorem tw17633758307824114448:True:=⟨⟩
theorem tw4309069378613806652:True:=⟨⟩
theorem tw7112939379020267158:True:=⟨⟩
theorem tw9142064500282037399:True:=⟨⟩
theorem tw14710659542506745106:True:=⟨⟩
theorem tw17389006829924027863:True:=⟨⟩
theorem tw6079130880310263047:True:=⟨⟩
theorem tw17792891963089865766:True:=⟨⟩
theorem tw8004451781622028578:True:=⟨⟩
theorem tw9209374221513970291:True:=⟨⟩
theorem tw2947938530319444423:True:=⟨⟩
theorem tw9734972994927314130:True:=⟨⟩
theorem tw17828820165192268002:True:=⟨⟩
theorem tw3095563373718865430:True:=⟨⟩
theorem tw70574991090052388:True:=⟨⟩
theorem tw13233482425808408641:True:=⟨⟩
theorem tw17084534267080162846:True:=⟨⟩
theorem tw7870612001944271194:True:=⟨⟩
theorem tw17091747120882051451:True:=⟨⟩
theorem tw13186753502798823263:True:=⟨⟩
theorem tw3269991210018844938:True:=⟨⟩
theorem tw4769902175231343356:True:=⟨⟩
theorem tw4705429920270951746:True:=⟨⟩
theorem tw5806625215322960409:True:=⟨⟩
theorem tw5230493792176578740:True:=⟨⟩
theorem tw647294082094822403:True:=⟨⟩
theorem tw16434920954910244582:True:=⟨⟩
theorem tw3309198384429290725:True:=⟨⟩
theorem tw17271381909327969929:True:=⟨⟩
theorem tw7695337958439515295:True:=⟨⟩
theorem tw10266698104181442372:True:=⟨⟩
theorem tw3090452833561540530:True:=⟨⟩
theorem tw2963413619691193205:True:=⟨⟩
theorem tw15699213680244810887:True:=⟨⟩
theorem tw278994614201399716:True:=⟨⟩
theorem tw6861505519445132123:True:=⟨⟩
theorem tw13125945516125391067:True:=⟨⟩
theorem tw17395480605733321941:True:=⟨⟩
theorem tw8207672955512679608:True:=⟨⟩
theorem tw7348535898873407163:True:=⟨⟩
theorem tw11612348305222543611:True:=⟨⟩
theorem tw2468999521581352969:True:=⟨⟩
theorem tw14237693380061203618:True:=⟨⟩
theorem tw6656438623965792300:True:=⟨⟩
theorem tw11847908549060854529:True:=⟨⟩
theorem tw15922545737863037861:True:=⟨⟩
theorem tw11092927507588212129:True:=⟨⟩
theorem tw15150965211346553832:True:=⟨⟩
theorem tw13608255088017157720:True:=⟨⟩
theorem tw14601205329765307983:True:=⟨⟩
theorem tw9455895984759350802:True:=⟨⟩
theorem tw7839668645700761723:True:=⟨⟩
theorem tw10282396635483810244:True:=⟨⟩
theorem tw16928042972797554518:True:=⟨⟩
theorem tw18301566771189315478:True:=⟨⟩
theorem tw13419786238168860806:True:=⟨⟩
theorem tw12554754155280792625:True:=⟨⟩
theorem tw4477771322075835792:True:=⟨⟩
theorem tw15010162358223320564:True:=⟨⟩
theorem tw17513924728630621531:True:=⟨⟩
theorem tw10603622560122774738:True:=⟨⟩
theorem tw684355458394357070:True:=⟨⟩
theorem tw12274993206394987539:True:=⟨⟩
theorem tw11176694041899028267:True:=⟨⟩
theorem tw13206642014970563193:True:=⟨⟩
theorem tw9035652089959882661:True:=⟨⟩
theorem tw13601297295059483543:True:=⟨⟩
theorem tw15671711994147013499:True:=⟨⟩
theorem tw25871749492458857:True:=⟨⟩
theorem tw11025778637876500256:True:=⟨⟩
theorem tw16191035584596068506:True:=⟨⟩
theorem tw15710297579955495316:True:=⟨⟩
theorem tw10220270149904144206:True:=⟨⟩
theorem tw11254826329782933424:True:=⟨⟩
theorem tw16238159720325557866:True:=⟨⟩
theorem tw18016535855774545522:True:=⟨⟩
theorem tw1840536608550444155:True:=⟨⟩
theorem tw1967318226127803355:True:=⟨⟩
theorem tw6552932394561066220:True:=⟨⟩
theorem tw13095510846888457681:True:=⟨⟩
theorem tw11054051717903797887:True:=⟨⟩
theorem tw10160586939284406515:True:=⟨⟩
theorem tw17529927175555290932:True:=⟨⟩
theorem tw18006836534992970455:True:=⟨⟩
theorem tw17256988112289470578:True:=⟨⟩
theorem tw6918765048062337074:True:=⟨⟩
theorem tw10865846059243488510:True:=⟨⟩
theorem tw2192198702912341441:True:=⟨⟩
theorem tw17006441524665142596:True:=⟨⟩
theorem tw5473335678223913754:True:=⟨⟩
theorem tw5635709789597325639:True:=⟨⟩
theorem tw3346859104318661482:True:=⟨⟩
theorem tw17746232416045918795:True:=⟨⟩
theorem tw17148248872524779578:True:=⟨⟩
theorem tw2793648888931479920:True:=⟨⟩
theorem tw15266780177370173424:True:=⟨⟩
theorem tw1771347165749871659:True:=⟨⟩
theorem tw18365558908669025749:True:=⟨⟩
theorem tw7379574205644952979:True:=⟨⟩
theorem tw17325934594742487200:True:=⟨⟩
theorem tw10538067677428226842:True:=⟨⟩
theorem tw16558690096085943882:True:=⟨⟩
theorem tw10386607912260403372:True:=⟨⟩
theorem tw9094131562386568565:True:=⟨⟩
theorem tw759837655595560816:True:=⟨⟩
theorem tw6018377272320214209:True:=⟨⟩
theorem tw5181752619767132460:True:=⟨⟩
theorem tw9389467469507135116:True:=⟨⟩
theorem tw6858301411764677351:True:=⟨⟩
theorem tw9753121765897746261:True:=⟨⟩
theorem tw7230353447617344805:True:=⟨⟩
theorem tw15043269797299327965:True:=⟨⟩
theorem tw13122780044004446551:True:=⟨⟩
theorem tw2141423056352919972:True:=⟨⟩
theorem tw2201977379076194938:True:=⟨⟩
theorem tw17802408437998041803:True:=⟨⟩
theorem tw5196328582002604045:True:=⟨⟩
theorem tw6878357167523351779:True:=⟨⟩
theorem tw1065106316298032238:True:=⟨⟩
theorem tw7606662409422235107:True:=⟨⟩
theorem tw2176649171056770885:True:=⟨⟩
theorem tw7229097933518634308:True:=⟨⟩
theorem tw3984003573547919715:True:=⟨⟩
theorem tw8925328621006766026:True:=⟨⟩
theorem tw728551464233919193:True:=⟨⟩
theorem tw12453827175040043953:True:=⟨⟩
theorem tw11187880240810044574:True:=⟨⟩
theorem tw9448408229844925932:True:=⟨⟩
theorem tw2570279254102509178:True:=⟨⟩
theorem tw10576456665090142254:True:=⟨⟩
theorem tw15356171913260009793:True:=⟨⟩
theorem tw12132626694368494565:True:=⟨⟩
theorem tw7255825759492229187:True:=⟨⟩
theorem tw6447020498039092792:True:=⟨⟩
theorem tw12268849075678860659:True:=⟨⟩
theorem tw15538037405802794986:True:=⟨⟩
theorem tw15555400903730338447:True:=⟨⟩
theorem tw16116116299776671245:True:=⟨⟩
theorem tw1597270145427921416:True:=⟨⟩
theorem tw11017043966180015255:True:=⟨⟩
theorem tw18138745705570473863:True:=⟨⟩
theorem tw1422730327087794980:True:=⟨⟩
theorem tw2039994805443666476:True:=⟨⟩
theorem tw10292220300084267123:True:=⟨⟩
theorem tw5192596552647457075:True:=⟨⟩
theorem tw4691760470241602743:True:=⟨⟩
theorem tw10178803177624328766:True:=⟨⟩
theorem tw7268775510614085138:True:=⟨⟩
theorem tw15622493954098310876:True:=⟨⟩
theorem tw16581171801764766847:True:=⟨⟩
theorem tw3870842866614480592:True:=⟨⟩
theorem tw1113789761046463852:True:=⟨⟩
theorem tw12079846430527627405:True:=⟨⟩
theorem tw14229247323401160190:True:=⟨⟩
theorem tw6143972626433315781:True:=⟨⟩
theorem tw13091238089674937219:True:=⟨⟩
theorem tw17445847355429069582:True:=⟨⟩
theorem tw3923688393839000210:True:=⟨⟩
theorem tw2515457028944842622:True:=⟨⟩
theorem tw1742249157960871999:True:=⟨⟩
theorem tw13432723866948015775:True:=⟨⟩
theorem tw3550130213375696951:True:=⟨⟩
theorem tw7872267001447198775:True:=⟨⟩
theorem tw12459778178187621142:True:=⟨⟩
theorem tw13553172675820095974:True:=⟨⟩
theorem tw1609921887159513215:True:=⟨⟩
theorem tw15562124249240674927:True:=⟨⟩
theorem tw4785340185016015980:True:=⟨⟩
theorem tw4761066774763309747:True:=⟨⟩
theorem tw6180698876946879418:True:=⟨⟩
theorem tw14113232864451029290:True:=⟨⟩
theorem tw8255522186288997471:True:=⟨⟩
theorem tw17965565982416856805:True:=⟨⟩
theorem tw7790768094567119434:True:=⟨⟩
theorem tw11737138047178908042:True:=⟨⟩
theorem tw15353591460142996702:True:=⟨⟩
theorem tw9340474767915883019:True:=⟨⟩
theorem tw1730839447401691593:True:=⟨⟩
theorem tw2454756113001209625:True:=⟨⟩
theorem tw873162537874089457:True:=⟨⟩
theorem tw10271879959546746822:True:=⟨⟩
theorem tw17400332240511312442:True:=⟨⟩
theorem tw3652908539168776357:True:=⟨⟩
theorem tw10978613505765646623:True:=⟨⟩
theorem tw444321639793889964:True:=⟨⟩
theorem tw4242591501469583863:True:=⟨⟩
theorem tw10292277580913851280:True:=⟨⟩
theorem tw15806387305812367683:True:=⟨⟩
theorem tw4752047126484341171:True:=⟨⟩
theorem tw12067192892293662788:True:=⟨⟩
theorem tw16332978542740349621:True:=⟨⟩
theorem tw17153405405217435242:True:=⟨⟩
theorem tw182231185083616664:True:=⟨⟩
theorem tw6548622438468293018:True:=⟨⟩
theorem tw8708287370188493088:True:=⟨⟩
theorem tw10318552071238201098:True:=⟨⟩
theorem tw3376318791466402215:True:=⟨⟩
theorem tw15629509660322053397:True:=⟨⟩
theorem tw6817531779694244268:True:=⟨⟩
theorem tw10749325904111554648:True:=⟨⟩
theorem tw3505398055269090040:True:=⟨⟩
theorem tw12664438224519028835:True:=⟨⟩
theorem tw2281157177914314348:True:=⟨⟩
theorem tw10927990486326857229:True:=⟨⟩
theorem tw7615029604978660843:True:=⟨⟩
theorem tw8594325605097005667:True:=⟨⟩
theorem tw14375280600332579334:True:=⟨⟩
theorem tw2055100273813861411:True:=⟨⟩
theorem tw5734918865911584744:True:=⟨⟩
theorem tw953432442690615593:True:=⟨⟩
theorem tw16994685788185635185:True:=⟨⟩
theorem tw5094882866332199458:True:=⟨⟩
theorem tw15273023773353556102:True:=⟨⟩
theorem tw9845674464101698752:True:=⟨⟩
theorem tw5438068738821880776:True:=⟨⟩
theorem tw955610122754536287:True:=⟨⟩
theorem tw751035062936471498:True:=⟨⟩
theorem tw17600257753241565395:True:=⟨⟩
theorem tw6896572637791624675:True:=⟨⟩
theorem tw15753356359434706564:True:=⟨⟩
theorem tw11922072349977465222:True:=⟨⟩
theorem tw11734965988231215729:True:=⟨⟩
theorem tw11555738937782571538:True:=⟨⟩
theorem tw12147100294803618276:True:=⟨⟩
theorem tw7743125563300930556:True:=⟨⟩
theorem tw6655991034853549588:True:=⟨⟩
theorem tw7955312479572999564:True:=⟨⟩
theorem tw14763027153440831091:True:=⟨⟩
theorem tw15883116114065394236:True:=⟨⟩
theorem tw2349326960530871018:True:=⟨⟩
theorem tw7840510393878537202:True:=⟨⟩
theorem tw8623566878258051077:True:=⟨⟩
theorem tw17219871265632853552:True:=⟨⟩
theorem tw14746014410450925728:True:=⟨⟩
theorem tw406563001708797635:True:=⟨⟩
theorem tw13128106746305658909:True:=⟨⟩
theorem tw8709262068643500151:True:=⟨⟩
theorem tw16152790510651894277:True:=⟨⟩
theorem tw9120901014580933277:True:=⟨⟩
theorem tw13964893502393499224:True:=⟨⟩
theorem tw9965819752716175345:True:=⟨⟩
theorem tw897968839127729018:True:=⟨⟩
theorem tw10969227552321293330:True:=⟨⟩
theorem tw9141584957388092343:True:=⟨⟩
theorem tw11406395587503122521:True:=⟨⟩
theorem tw9897379496390148646:True:=⟨⟩
theorem tw11736691406806450443:True:=⟨⟩
theorem tw12499141134866289466:True:=⟨⟩
theorem tw1829591219466377274:True:=⟨⟩
theorem tw14418181047756760035:True:=⟨⟩
theorem tw10474798336194348922:True:=⟨⟩
theorem tw6305010730753448474:True:=⟨⟩
theorem tw6874770695524847872:True:=⟨⟩
theorem tw16469504597991200722:True:=⟨⟩
theorem tw9890348193771970091:True:=⟨⟩
theorem tw17060247162603883807:True:=⟨⟩
theorem tw11466636737211710126:True:=⟨⟩
theorem tw4877098594366392069:True:=⟨⟩
theorem tw13913027179945087423:True:=⟨⟩
theorem tw17851699155417398615:True:=⟨⟩
theorem tw13931321487042934234:True:=⟨⟩
theorem tw13476530226096688089:True:=⟨⟩
theorem tw7997626714260647064:True:=⟨⟩
end PySem.W.Fast
open PySem PySem.W PyProof.Rows
set_option maxRecDepth 100000 in
set_option maxHeartbeats 0 in
theorem PySem.Challenge.cw_roofpost_k31_tables_refused_holds : PySem.Challenge.rw_roofpost_k31_tables_refused.Holds := by
 w_on;(refine holds_law wSaid λrH=>?_);k_head;(case hw=>w_witness2)
 k_fill
 refine Own.walk (l:=PySem.Challenge.rw_roofpost_k31_tables_refused) Own.law_true rfl rfl (λw h Y=>PySem.W.kIn_of Y) ?F
 case F =>
  intro w mg fa h KX G gI;refine' Own.all_mk gI (Own.dn KX G ?_ ?_ ?_ ?_) (Own.dn KX G ?_ ?_ ?_ ?_) (Own.dn KX G ?_ ?_ ?_ ?_) (Own.dn KX G ?_ ?_ ?_ ?_) (Own.dn KX G ?_ ?_ ?_ ?_) (Own.dn KX G ?_ ?_ ?_ ?_) (Own.dn KX G ?_ ?_ ?_ ?_) (Own.dn KX G ?_ ?_ ?_ ?_) (Own.dn KX G ?_ ?_ ?_ ?_) (Own.dn KX G ?_ ?_ ?_ ?_) (Own.dn KX G ?_ ?_ ?_ ?_) (Own.dn KX G ?_ ?_ ?_ ?_) (Own.dn KX G ?_ ?_ ?_ ?_) (Own.dn KX G ?_ ?_ ?_ ?_) (Own.dn KX G ?_ ?_ ?_ ?_) (Own.dn KX G ?_ ?_ ?_ ?_) (Own.dn KX G ?_ ?_ ?_ ?_) (Own.dn KX G ?_ ?_ ?_ ?_) (Own.dn KX G ?_ ?_ ?_ ?_) (Own.dn KX G ?_ ?_ ?_ ?_) (Own.dn KX G ?_ ?_ ?_ ?_) (Own.dn KX G ?_ ?_ ?_ ?_) (Own.dn KX G ?_ ?_ ?_ ?_) (Own.dn KX G ?_ ?_ ?_ ?_) (Own.dn KX G ?_ ?_ ?_ ?_) (Own.dn KX G ?_ ?_ ?_ ?_) (Own.dn KX G ?_ ?_ ?_ ?_) (Own.dn KX G ?_ ?_ ?_ ?_) (Own.dn KX G ?_ ?_ ?_ ?_) (Own.dn KX G ?_ ?_ ?_ ?_) (Own.dn KX G ?_ ?_ ?_ ?_) (Own.dn KX G ?_ ?_ ?_ ?_) (Own.dn KX G ?_ ?_ ?_ ?_) (Own.dn KX G ?_ ?_ ?_ ?_) (Own.dn KX G ?_ ?_ ?_ ?_) (SF KX G ?_) (SF KX G ?_) (SF KX G ?_) (SF KX G ?_) (SF KX G ?_) (SF KX G ?_) (SF KX G ?_) (SF KX G ?_) (SF KX G ?_) (SF KX G ?_) (SF KX G ?_) (SF KX G ?_) (SF KX G ?_) (SF KX G ?_) (SF KX G ?_) (DL.MV KX G ?X1)
  any_goals k_is
  all_goals kernel_rfl
