import PyProof.Rows.All
import Wide.All
import OpenK.AllK
import Wide.FinOn
import Lean
import PyProof.EqAt
import PyProof.EqKinds
import PyProof.TupleCall
import KE.KNest
import PyProof.NeKinds
import PyProof.IsiSeqPairs
import PyProof.IsiNone
import KE.KSortTup
import KE.KRevSl
import KE.KIntText
import KE.KIsAll
import PyProof.ExcArgsOwn
import PyProof.ExcAttrAll.ValueError
import PyProof.NsDelKeeps
import PyProof.InstStoreFacts
import PyProof.Conv_int_bool
import PyProof.SliceStr2
import PyProof.StrBlock2
import KE.KLam
import PySem.Challenge.RW_roofpost_k06_unlike_fields_refused
set_option Elab.async false
set_option linter.all false
open Array (toList)
open Array.Perm (trans)
open Function (comp_def)
open List (map map_map)
open List.Pairwise (imp_of_mem)
open List.Perm (swap)
open Option (getD_none map_some)
open PUnit (unit)
open PySem.Builtin.Frozenset (newClass slot0 updateFrom)
open PySem.Builtin.List (listExtendWith listLengthHint)
open PySem.Builtin.Range (rangeSize)
open PySem.Builtin.Slice (sliceApplied)
open PySem.Builtin.SmallTypes (stopIteration)
open PySem.Builtin.Str (tooLong)
open PySem.Builtin.Tuple (tupleHashOf tupleItemsOf)
open PySem.Code (isFrame)
open PySem.Data (fields seq)
open PySem.Obj (putSet)
open PySem.SB (mul)
open PySem.SeqAt (ne_of_list_tuple)
open PySem.W (kla_fn methodObj noTabs)
open Sum (inl inr)
set_option maxRecDepth 100000
open PySem renaming wpAny_bind→a_,Value→b_,Shared→c_,wpAny_pure→d_,starEach→f_,Addr→g_,model→l_,wpAny→m_,Program→u_,World→C_,sizeLine→D_,wpAny_holding→F_,plainId_quiet→J_,Heap→K_,Expr→L_,wpAny_newObj_type→M_,backTo→P_,codeAny_builtin→Q2,wpAny_seqItems→Q5,mainGlobals→Q6,wpAny_mono→Q9,wpAny_updateSeq→Q_,wpAny_truthy_bool→Ra,Around→Rh,wpAny_loadPart_at→Rj,wpAny_letGo→Rk,Stmt→Rm,wpAny_tryCatch→Ro,compareOp→Rq,wpAny_callSpecial?_slot→Rr,wpAny_Call_Name_kw→Rs,wpAny_field→Rt,wpAny_call_entry→Rv,foldedSetIterable→Ry,sizeLine_eq→Rz,wpAny_pyIter_list→RA,wpAny_setState_of→RC,NameKind→RE,SetTable→RI,codeAny_call_builtin→RK,bindArgs→RL,swapsWith→RM,wpAny_of_eq→RN,codeAny→RS,bootBuiltins→RU,Builtin→RV,assignEach→RX,wpAny_passesOwn→R0,binaryOp→R5,FuncData→R6,codeAny_mono→R7,rawInt→R9,cLine→Sa,wpAny_setField→Se,checkBuiltinCall→Sh,pyNext→Sm,behindInMarks→Sv,attributeBase→Sw,holding→SE,wpAny_isInstance→SN,wpAny_attempt→SW,wpAny_execs_nil→SZ,argBest→S0,wpAny_call→S3,IsPair→S5,wpAny_setField_rec→S6,sliceBounds→S',seqItems?→Tb,updateSeq→Tc,Scope→Te,ofAClassStatement→Tp,searchCouldBeSeen→Tq,builtinsNs→Tx,isInstance→TJ,keywordEach→TV,letOwnedTupleGo→T7,wpAny_setEntries_of→Ub,Keyword→Ud,codeAmong→Ul,PassesOwn→Um,lastMarks→Uo,assign→Us,wpAny_rule→Uw,richCompare→UF,hashByValue→UJ,excClassObj→UL,wpAny_comprehension_free→UP,Walks→UV,noFill_tuple_add→UW,pickOrder→U5,wpAny_askSetting→U6,wpAny_typeOf→Vb,closureFor→Ve,wpAny_specialOf→Vp,codeAny_of_tree→Vq,builtinLookup_eq_fast→Vt,wpAny_setFlight_noneW→Vu,recursionLimit→Vw,typeOf→VA,backToKw→VB,wpAny_newFunctionEnv→VC,firstArgMember→VD,wpAny_updateSeq_pair→VE,isSubtype_stop→VF,GenState→VM,TriplesOk→VQ,callerA→VS,noteFrame→VT,wpAny_standAt→VZ,swapsWithSole→V0,swappedStores→V1,seq_tuple_add→V2,IsZip→V4,pyIter→V7,IsPart→V8,call_meets→V',wpAny_pyIter_tuple→V_,argsOk→Wc,wpAny_assign_Name→We,BindsTo→Wg,concat_meets→Wh,slot_list_getitem→Wi,wpAny_pyIter_enum→Wm,wpAny_storeSet_of→Wr,wpAny_pyIter_slot→Ws,OsState→Wv,setFlight→WA,Model→WB,again→WC,seqIndex_of→WE,builtinKind→WG,standAt→WL,getItem→WM,OwnTail→WN,isTrue→WP,wpAny_Name→WQ,Result→WR,bindL→WS,bindC→WT,entryFor→W4,defaultsOf→W7,notedBy→Xd,collect→Xf,setNext→Xh,Code→Xj,wants→Xl,Drawn→Xm
open PySem.Heap renaming get?_push_of_some→e_,get?_push_size→r_,lt_size→w_,get?_update_other→B_,get?_update_self→O_,size_push→RT,get?_none_of_le→Ss
open List renaming getElem?_eq_getElem→h_,getD_eq_getElem?_getD→j_,getElem?_eq_some_iff→n_,size_toArray→o_,length_map→p_,mem_singleton→q_,mem_cons_of_mem→s_,all_eq_true→t_,mem_cons_self→v_,getElem?_map→y_,mem_cons→A_,length_replicate→N_,replicate→QY,length_append→QZ,drop_eq_getElem_cons→Q0,mem_append_right→Q1,map_cons→Q7,mem_append→Q8,exists_cons_of_length_eq_add_one→Rc,mem_map→Re,getElem?_set_ne→Rf,mem_of_getElem?→Rg,mem_append_left→Rl,length_cons→Rp,append_nil→Rx,getElem_mem→RB,length_eq_zero_iff→RG,getElem?_append_left→RH,getElem?_append_right→RO,getElem?_cons_succ→RP,range→RR,mem_of_mem_take→R4,getElem?_replicate→Sb,all_cons→Sd,length_pos_iff→Sf,lookup→Sj,getElem?_set_self→Sl,length_set→Sn,range_succ_eq_map→So,mem_range→Su,zip_cons_cons→Sy,length_filter_le→SC,drop_of_length_le→SF,filterMap_cons→SH,map_append→SM,getElem?_zip_eq_some→SQ,mem_filterMap→SU,mem_of_mem_drop→S1,forIn_cons→S4,not_mem_nil→S_,drop_eq_nil_of_le→Tj,take_of_length_le→Tr,length_singleton→Ts,getElem?_eq_none→Tt,take_append_drop→Tw,nodup_cons→Tz,getElem?_drop→TK,length_drop→TU,getElem_toArray→TZ,getLast?_eq_some_getLast→T6,length_range→Ue,forIn_nil→Uq,drop_succ_cons→Ut,getElem_of_mem→Uy,pairwise_iff_getElem→UA,exists_mem_of_ne_nil→UB,length_take→UC,getElem_map→UG,getElem_range→UO,pairwise_cons→UR,length_erase_of_mem→US,drop_length→UZ,lookup_cons→U0,any_eq_true→U4,filter_cons→U_,mem_filter→Va,append_assoc→Vf,foldl_cons→Vi,foldl_append→Vk,length→Vx,drop_eq_nil_iff→VG,take_length→VL,take_eq_nil_iff→VO,map_take→VP,take_succ_cons→VU,flatMap_append→VY,nil_append→Wb,append_of_mem→Wd,any_cons→Wk,pairwise_map→Wp,nodup_append→Wu,take_add_one→Ww,flatMap_cons→Wx,take_succ→Wz,of_mem_zip→WU,length_zip→WZ,Nodup→W1,map_drop→W8,set_set→Xc
open Bool renaming false_ne_true→i_,and_eq_true→I_,not_true→TN,false_eq_true→TQ,not_eq_true'→Uh,and_false→Uu,eq_false_iff→UK,eq_iff_iff→Vr,false_and→Vv
open Array renaming getElem?_eq_getElem→k_,getElem?_eq_some_iff→E_,length_toList→RD,getD_eq_getD_getElem?→RY,getElem_mem→SG,perm_iff_toList_perm→SK,mem_iff_getElem?→SO,mem_of_getElem?→Tv,getElem?_eq_none→TH,getElem_of_mem→TY,size_extract→Ui,size_setIfInBounds→UT,getElem?_extract→Vh,forIn_toList→Vj,getElem_toList→VH,mem_toList_iff→VI,getElem?_push→VW,toList_append→VX,getD→Xk
open Nat renaming le_refl→x_,le_trans→z_,lt_of_lt_of_le→G_,ne_of_lt→H_,zero_le→Rw,lt_irrefl→RZ,le_add_right→R8,lt_succ_of_lt→Sx,ne_of_gt→Tg,lt_trichotomy→TL,le_of_lt→TR,succ_ne_self→Uf,lt_succ_self→Ug,lt_or_ge→Ux,not_lt_zero→UI,le_of_not_lt→UY,zero_add→U2,le_succ→Vg,le_of_eq→Wj,le_of_lt_succ→Wo,succ_pos→W0,not_lt→Xe,mod_lt→Xg
open Ne renaming symm→QW
open Option.some renaming inj→QX
open PyProof.Rows renaming callWith_type1→Rb,slot_tuple_getitem→R_,envOfC→SR,seqObj→S8,AllBare→Tf,callWith_builtin1→TB,IntsAre→UD,subscriptTail_builtinR→Vc,get?_update_seq→Vo,isBoolOf→VN,IsTup→WO,boot_min→WX
open PySem.F renaming plain_min_loop→Ri,store_ValueError→RW,plain_max_loop→Si,excBase_ValueError→Sq,plain_min_loop→SL,attrBase_ValueError→SS,called_set→S9,entry_min_loop→TF,plainAttrs_list→T9,slot_zip_next→T_,slot_tuple_iterator_next→Uv,args_tuple_add_2→UX,entry_tuple_add→Vn,slot_enumerate_next→Vs,slot_tuple_add→Vy,args_zip_next_1→Wl,slot_tuple_hash→Wq,plain_list_iadd→Wt,slot_gs_get→WI
open PySem.Around renaming under_plainId→Ru
open Option renaming map_eq_some_iff→RF,isSome_iff_exists→SV,bind_eq_some_iff→U8,map→W3
open PySem.SetTable renaming insertAt→RJ,runEnd→SA,below→Tu,bits→VV,leap→WK,turns→W2
open PySem.W renaming mg_none_of→RQ,looks_findIn→Sr,Frag→SY,tabIn→Td,Looks→Tl,looks_mroIn→T4,fnOf→Uc,hideAll→Uj,hideAll_none→Uk,of_hideAll→Vl,findIn→Vm,mroIn→V5,kas_rev→Wn,hideAll_get→WH,less→WW,keepIn→W5,callWith_K→W6,clsIn→W',codeIn→W_,OpenLaw→Xa,WShape→Xb,kitOne→Xi
open PySem.Str renaming ofString→Sc
open PyProof.Rows.F renaming plain_set_update_loop→Sg,entry_set_update_loop→U3
open Int renaming le_refl→Sk,toNat_natCast→Ti,emod_lt_of_pos→Tn,emod_nonneg→UH,eq_ofNat_of_zero_le→U9
open PySem.Obj renaming isFreed_of_fields→Sz,data_mapFields→SJ,mapSeq→TC,cls_mapFields→UE,mapFields→U7
open PySem.Calls renaming spliced_cons→S2,spliced_nil→Th,evalArgs_plain→TX,Name_function_global→Ur,callWith_builtin→Vd,Constant_str→V6
open PySem.Walks renaming list→S7
open Nat.succ renaming inj→Tk
open PySem.SetTable.layClean renaming free→TM
open Classical renaming byContradiction→Ua
open PySem.SetTable.probe renaming go→Uz
open PySem.Value renaming builtin→UM
open PySem.PassesOwn renaming never→UN
open PySem.AutoSeq1 renaming wpAny_loadPart'→UQ
open PySem.Code renaming quiet_builtin→UU
open PySem.Builtin.Slice renaming slicePlaces→Vz,sliceAdjust→WD
open ForInStep renaming done→VJ,yield→WV
open PySem.Data renaming cell→VR
open PySem.Builtin.Tuple renaming tupleExact→V9
open PySem.SeqAt renaming RcNeAt→Wy,EqAt→WJ
open PySem.Builtin.List renaming listTooLong→WF
open PySem.Builtin.SmallTypes renaming nextOf→WY
open False renaming elim→W9
theorem wSaid:PySem.Challenge.rw_roofpost_k06_unlike_fields_refused.wellSaid=true:=by decide +kernel
local macro_rules|`(tactic|omega)=>`(tactic|first|with_reducible decide|with_reducible assumption|with_reducible (refine Nat.le_trans (m:=?x) ?p ?q;(case p=>assumption);(case q=>decide))|with_reducible (refine Int.le_trans (b:=?x) ?p ?q;(case p=>assumption);(case q=>decide))|with_reducible (refine Int.lt_of_lt_of_le (b:=?x) ?p ?q;(case p=>assumption);(case q=>decide))|with_reducible (refine Nat.lt_of_le_of_lt (m:=?x) ?p ?q;(case p=>assumption);(case q=>decide))|lia|omega (config:={}))
noncomputable section
variable{us vs ac its' io bB:List PySem.Value}{h base h' h₁ h₀:PySem.Heap}{g':Array PySem.GenState}{t' n tk m ep ar kk:Nat}{d':PySem.Drawn}{ch fp:List PySem.Addr}{e tg ie:PySem.Expr}{ii aa pn:List (PySem.Addr×PySem.Obj)}{N ps cU:List PySem.Str}{A:PySem.Around}{s' s2 au s0:PySem.Shared}{pos aC aS ay py dg tp dh p' np:PySem.Pos}{y qual q:PySem.Str}{f C T l l1 l2 fa S fI P':PySem.Addr}{body sa sb:List PySem.Stmt}{hi:Option Int}{pl:PySem.Sem Bool}{op cC:PySem.CmpOp}{env:PySem.Env}{kw:List (PySem.Str×PySem.Value)}{mg mA:PySem.Str->Option PySem.Value}{fd:PySem.FuncData}{scope:PySem.Scope}{cd pm ct oc vl vu fl cv:PySem.Value}{params:PySem.Arguments}{an od:Option PySem.Addr}{cM:Array (Option PySem.Value)}{ws:List (List (Int×Int))}{ah cells af:Array PySem.Value}{args:List PySem.W.WData}{jH bg bK aA:List PySem.Expr}{neg iW:Bool}{ns hs kz:List Int}{bt:Nat->Nat->Bool}{eqf:Nat->Bool}{ni:String}{fy:List (PySem.Str×PySem.Addr)}{low most:Int}{pr:Int×Int}{L:List (Int×Int)}
namespace L2
open PySem PySem.Spec PyProof.Rows
abbrev Key:=Sum Int Str
noncomputable def keyIs:Key->b_->Bool
 | .inl k,v=>b_.isInt k v
 | .inr x,v=>b_.isStrOf x v
noncomputable def keyH(w:C_):Key->Int
 | .inl k=>hashInt k
 | .inr x=>hashStr w x
theorem wm:∀{k:Key}{v:b_},keyIs k v=true->(∃i t,k=inl i/\v=b_.int i t)\/(∃x t,k=inr x/\v=b_.str x t)
 | .inl i,v,h=>by
  obtain⟨t,e⟩:=b_.isInt_shape (k:=i) (v:=v) h;exact .inl ⟨i,t,rfl,e⟩
 | .inr x,v,h=>by
  obtain⟨t,e⟩:=b_.isStrOf_shape (x:=x) (v:=v) h;exact .inr ⟨x,t,rfl,e⟩
theorem N5(a b:Int):decide ((inl a:Key)=inl b)=(a == b):=by
 by_cases e:a=b
 ·subst e;simp
 ·have h:¬(inl a:Key)=inl b:=λq=>e (inl.inj q)
  rw[decide_eq_false h];exact(beq_eq_false_iff_ne.mpr e).symm
theorem IR(a b:Str):decide ((inr a:Key)=inr b)=decide (a=b):=by
 by_cases e:a=b
 ·subst e;simp
 ·have h:¬(inr a:Key)=inr b:=λq=>e (inr.inj q)
  rw[decide_eq_false h,decide_eq_false e]
theorem Ix(a:Int)(b:Str):decide ((inl a:Key)=inr b)=false:=decide_eq_false (λq=>nomatch q)
theorem Mg(a:Str)(b:Int):decide ((inr a:Key)=inl b)=false:=decide_eq_false (λq=>nomatch q)
noncomputable def mixKind(prog:u_)(w:C_):PySem.KeyKind prog w Key where
 is:=keyIs
 hash:=keyH w
 inj:=λv a b ha hb=>by
  rcases wm ha with⟨i,t,rfl,rfl⟩ | ⟨x,t,rfl,rfl⟩
  ·rcases wm hb with⟨j,u,rfl,e⟩ | ⟨y,u,rfl,e⟩
   ·injection e with e1 _;rw[e1]
   ·exact nomatch e
  ·rcases wm hb with⟨j,u,rfl,e⟩ | ⟨y,u,rfl,e⟩
   ·exact nomatch e
   ·injection e with e1 _;rw[e1]
 byValue:=λk v h=>by
  rcases wm h with⟨i,t,rfl,rfl⟩ | ⟨x,t,rfl,rfl⟩<;>rfl
 pyHash:=λhv h=>by
  rcases wm hv with⟨i,t,rfl,rfl⟩ | ⟨x,t,rfl,rfl⟩
  ·exact wpAny_pyHash_int h
  ·exact wpAny_pyHash_str h
 eqBool:=λhu hv h=>by
  rcases wm hu with⟨i,t,rfl,rfl⟩ | ⟨x,t,rfl,rfl⟩
  ·rcases wm hv with⟨j,u,rfl,rfl⟩ | ⟨y,u,rfl,rfl⟩
   ·rw[N5] at h;exact wpAny_eqBool_int h
   ·rw[Ix] at h;exact SeqAt.EqAt.int_str i t y u _ _ _ _ h
  ·rcases wm hv with⟨j,u,rfl,rfl⟩ | ⟨y,u,rfl,rfl⟩
   ·rw[Mg] at h;exact SeqAt.EqAt.str_int x t j u _ _ _ _ h
   ·rw[IR] at h;exact wpAny_eqBool_str h
 «strs»:=λk x t v h=>by
  rcases wm h with⟨i,u,rfl,e⟩ | ⟨y,u,rfl,e⟩
  ·exact nomatch e
  ·injection e with e1 _
   subst e1;cases v<;>rfl
inductive V where
 | non | bl (b:Bool) | int (i:Int) | str (x:Str) | byt (b:Array UInt8) | flt (b:UInt64) | ref (a:g_) | ty (n:String)
 deriving DecidableEq
def RelV:V->b_->Prop
 | .non,u=>u=b_.none
 | .bl b,u=>u=b_.bool b
 | .int i,u=>∃t,u=b_.int i t
 | .str x,u=>∃t,u=b_.str x t
 | .byt b,u=>∃t,u=b_.bytes b t
 | .flt b,u=>∃t,u=b_.float b t
 | .ref a,u=>u=b_.ref a
 | .ty n,u=>u=b_.type n
abbrev Vals:List V->List b_->Prop:=Paired RelV
theorem Vals.length{xs:List V}(r:Vals xs us):xs.length=us.length:=Paired.length r
theorem Vals.get:∀{xs:List V}{us:List b_}{i:Nat}{x:V},Vals xs us->xs[i]?=some x->∃u,us[i]?=some u/\RelV x u
 | _,_,_,_,.nil,e=>by simp at e
 | _,_,0,_,.cons r _,e=>by simp at e;subst e;exact⟨_,rfl,r⟩
 | _,_,i+1,x,.cons _ t,e=>by
  obtain⟨u,h1,h2⟩:=Vals.get (i:=i) (x:=x) t (by simpa using e);exact⟨u,by simpa using h1,h2⟩
theorem Vals.set{x:V}{u:b_}(r:RelV x u):∀{xs:List V}{us:List b_} (i:Nat),Vals xs us->Vals (xs.set i x) (us.set i u)
 | _,_,_,.nil=>.nil
 | _,_,0,.cons _ t=>.cons r t
 | _,_,i+1,.cons q t=>.cons q (Vals.set r i t)
theorem Vals.append:∀{xs ys:List V}{us ws:List b_},Vals xs us->Vals ys ws->Vals (xs++ys) (us++ws)
 | _,_,_,_,.nil,s=>s
 | _,_,_,_,.cons r t,s=>.cons r (Vals.append t s)
theorem Vals.take:∀{xs:List V}{us:List b_} (n:Nat),Vals xs us->Vals (xs.take n) (us.take n)
 | _,_,0,_=>.nil
 | _,_,_+1,.nil=>.nil
 | _,_,n+1,.cons r t=>.cons r (Vals.take n t)
theorem Vals.drop:∀{xs:List V}{us:List b_} (n:Nat),Vals xs us->Vals (xs.drop n) (us.drop n)
 | _,_,0,r=>r
 | _,_,_+1,.nil=>.nil
 | _,_,n+1,.cons _ t=>Vals.drop n t
def RelO:Option V->Option b_->Prop
 | some v,some u=>RelV v u
 | none,none=>True
 | _,_=>False
def KV{κ:Type}:List (κ×V)->List (κ×b_)->Prop:=Paired λ(p:κ×V) (q:κ×b_)=>p.1=q.1/\RelV p.2 q.2
noncomputable def kV:Key->V
 | .inl i=>.int i
 | .inr x=>.str x
inductive HO where
 | lst (xs:List V)
 | tup (xs:List V)
 | dK (aX:List (Key×V)) | dT (aX:List (List Key×V))
 | set (S:Int->Bool) (n:Nat)
 | ins (C dx:g_) (fs:List (Str×V))
 | own (x:g_)
 | xd (fs:List (Str×V))
 | met (f x:g_)
 | rng (lo hi:Int)
 | frz (o:Obj) (u:HO)
 | tbl (q:Str)
 | ext (φ:K_->Prop)
abbrev Hp:=g_->Option HO
noncomputable def upd(H:Hp)(a:g_)(o:HO):Hp:=λb=>if b=a then some o else H b
theorem u3{H:Hp}{a:g_}{o:HO}:upd H a o a=some o:=by unfold upd;rw[if_pos rfl]
theorem uS{H:Hp}{a b:g_}{o:HO}(h:b≠a):upd H a o b=H b:=by unfold upd;rw[if_neg h]
theorem OH{H:Hp}{a:g_}{o u:HO}:upd (upd H a o) a u=upd H a u:=by
 funext b;unfold upd;split<;>rfl
theorem vM{H:Hp}{a b:g_}{o:HO}(h:H a=some o)(h':H b=none):a≠b:=by
 intro e;subst e;rw[h] at h';cases h'
section
variable (P:u_)(w:C_)
def ObjOk(H:Hp)(h:K_)(a:g_):HO->Prop
 | .lst xs=>xs.length<=D_/\∃(ac:List b_) (n:Nat),Vals xs ac/\h.get? a=some { cls:=.type "list", data:=.seq ac.toArray n }
 | .tup xs=>xs.length<=D_/\∃ac:List b_,Vals xs ac/\WO h a ac.toArray
 | .dK aX=>aX.length<=D_/\(a == sysModules)=false/\∃vs,KV aX vs/\h.DictOf (mixKind P w) a vs
 | .dT aX=>aX.length<=D_/\(a == sysModules)=false/\∃xs:List (List Key×g_×b_),
   Paired (λ(p:List Key×V) (q:List Key×g_×b_)=>p.1=q.1/\H q.2.1=some (.tup (p.1.map kV))/\RelV p.2 q.2.2) aX xs ∧
   ∃o es ep,h.get? a=some o/\o.ExactDict/\o.data=.dict es ep/\es.toList=xs.map (entryOfKey (tupleKind (mixKind P w)))/\(xs.map (·.1)).Nodup
 | .set S n=>h.SetOf (intKind P w) a S n
 | .ins C dx fs=>H dx=some (.own a)/\fs.length<=1000/\dx≠a/\h.get? a=some (PySem.W.instObj C dx) ∧
   ∃mA,h.Ns1 dx mA/\(∀f,RelO (fs.lookup f) (mA f))/\PySem.Within mA (fs.map (·.1))
 | .own _=>∃o,h.get? a=some o
 | .xd fs=>∃mA,h.Ns1 a mA/\∀f,RelO (fs.lookup f) (mA f)
 | .rng lo hi=>∃t u v,h.get? a=some { cls:=.type "range", data:=.fields #[.int lo t,.int hi u,.int 1 v] }
 | .frz o u=>h.get? a=some o/\ObjOk H h a u
 | .tbl q=>∃ps:Array b_,h.get? a=some { cls:=.none,data:=.fields ps }/\VQ ps.toList/\∀pos cv,Ul pos ps.toList=some cv->∃c oc vs t,cv=.ref c/\H c=some (.frz oc (.own a))/\oc.data=.fields vs/\vs[1]?=some (.str q t)
 | .met f x=>h.get? a=some (methodObj (.ref f) (.ref x))
 | .ext φ=>φ h/\(∃o,h.get? a=some o)/\∀h1 h2:K_,φ h1->(∀o,h1.get? a=some o->h2.get? a=some o)->φ h2
def HOk(H:Hp)(h:K_):Prop:=∀a o,H a=some o->ObjOk P w H h a o
end
section
variable{P:u_}{w:C_}{H H':Hp}{a:g_}{o:HO}
theorem ObjOk.lt(x:ObjOk P w H h a o):a < h.objs.size:=by
 cases o with
 | lst xs=>obtain⟨_,_,_,_,e⟩:=x;exact w_ e
 | tup xs=>obtain⟨_,_,_,p⟩:=x;exact p.lt
 | dK aX=>obtain⟨_,_,_,_,o,_,_,e,_⟩:=x;exact w_ e
 | dT aX=>obtain⟨_,_,_,_,o,_,_,e,_⟩:=x;exact w_ e
 | set S n=>obtain⟨o,_,_,_,e,_⟩:=x;exact w_ e
 | ins C dx fs=>obtain⟨_,_,_,e,_⟩:=x;exact w_ e
 | own y=>obtain⟨_,e⟩:=x;exact w_ e
 | xd fs=>obtain⟨_,⟨_,_,_,e,_⟩,_⟩:=x;exact w_ e
 | rng lo hi=>obtain⟨_,_,_,e⟩:=x;exact w_ e
 | frz ob u=>obtain⟨e,_⟩:=x;exact w_ e
 | tbl q=>obtain⟨_,e,_⟩:=x;exact w_ e
 | met f y=>exact w_ (show h.get? a=some _ from x)
 | ext φ=>obtain⟨_,⟨_,e⟩,_⟩:=x;exact w_ e
theorem Paired.mapP{α Y:Type}{F G:α->Y->Prop}:∀{kH:List α}{kJ:List Y},Paired F kH kJ->(∀a b,F a b->G a b)->Paired G kH kJ
 | _,_,.nil,_=>.nil
 | _,_,.cons r t,f=>.cons (f _ _ r) (Paired.mapP t f)
theorem ObjOk.stay(x:ObjOk P w H h a o)(k:∀b u,(b=a\/H b=some (.own a))->h.get? b=some u->h'.get? b=some u)(ho:∀b,H b=some (.own a)->H' b=some (.own a))(ht:∀b xs,H b=some (.tup xs)->H' b=some (.tup xs))(hz:∀b o u,H b=some (.frz o u)->H' b=some (.frz o u)):ObjOk P w H' h' a o:=by
 induction o with
 | lst xs=>obtain⟨z,ac,n,r,e⟩:=x;exact⟨z,ac,n,r,k _ _ (.inl rfl) e⟩
 | tup xs=>obtain⟨z,ac,r,ob,e,c⟩:=x;exact⟨z,ac,r,ob,k _ _ (.inl rfl) e,c⟩
 | dK aX=>obtain⟨z,y,vs,r,ob,es,ep,e,c⟩:=x;exact⟨z,y,vs,r,ob,es,ep,k _ _ (.inl rfl) e,c⟩
 | dT aX =>
  obtain⟨z,y,xs,r,ob,es,ep,e,c⟩:=x;exact⟨z,y,xs,Paired.mapP r λp q z=>⟨z.1,ht _ _ z.2.1,z.2.2⟩,ob,es,ep,k _ _ (.inl rfl) e,c⟩
 | set S n=>obtain⟨ob,es,ep,t,e,c⟩:=x;exact⟨ob,es,ep,t,k _ _ (.inl rfl) e,c⟩
 | ins C dx fs =>
  obtain⟨d,z,ne,e,mA,⟨od,es,ep,e2,c⟩,r⟩:=x;exact⟨ho _ d,z,ne,k _ _ (.inl rfl) e,mA,⟨od,es,ep,k _ _ (.inr d) e2,c⟩,r⟩
 | own y=>obtain⟨ob,e⟩:=x;exact⟨ob,k _ _ (.inl rfl) e⟩
 | xd fs=>obtain⟨mA,⟨od,es,ep,e,c⟩,r⟩:=x;exact⟨mA,⟨od,es,ep,k _ _ (.inl rfl) e,c⟩,r⟩
 | rng lo hi=>obtain⟨t,u,v,e⟩:=x;exact⟨t,u,v,k _ _ (.inl rfl) e⟩
 | frz ob u ih=>obtain⟨e,q⟩:=x;exact⟨k _ _ (.inl rfl) e,ih q⟩
 | tbl q =>
  obtain⟨ps,e,t,c⟩:=x;refine⟨ps,k _ _ (.inl rfl) e,t,λpos cv h=>?_⟩;obtain⟨c,oc,vs,t,e1,e2,e3⟩:=c pos cv h;exact⟨c,oc,vs,t,e1,hz _ _ _ e2,e3⟩
 | met f y =>
  have e:h.get? a=some (methodObj (.ref f) (.ref y)):=x;show h'.get? a=some (methodObj (.ref f) (.ref y));exact k a _ (.inl rfl) e
 | ext φ=>obtain⟨p,⟨o,e⟩,st⟩:=x;exact⟨st _ _ p λo q=>k _ _ (.inl rfl) q,⟨o,k _ _ (.inl rfl) e⟩,st⟩
theorem HOk.lt(x:HOk P w H h)(e:H a=some o):a < h.objs.size:=(x a o e).lt
theorem HOk.fresh(x:HOk P w H h)(e:h.objs.size<=a):H a=none:=by
 cases q:H a with
 | none=>rfl
 | some u=>exact absurd (G_ (x.lt q) e) (RZ _)
theorem HOk.kept(x:HOk P w H h)(k:∀b u,h.get? b=some u->h'.get? b=some u):HOk P w H h':=λa o e =>
 (x a o e).stay (λb u _ q=>k b u q) (λ_ q=>q) (λ_ _ q=>q) λ_ _ _ q=>q
theorem HOk.laid(x:HOk P w H h)(k:∀b u,h.get? b=some u->h'.get? b=some u)(hp:h.objs.size<=a)(new:ObjOk P w (upd H a o) h' a o):HOk P w (upd H a o) h':=λb u e=>by
 have hn:=x.fresh hp;by_cases hb:b=a
 ·subst hb;rw[u3] at e;cases e;exact new
 ·rw[uS hb] at e;exact(x b u e).stay (λc v _ q=>k c v q) (λc q=>by rw[uS (vM q hn)];exact q) (λc xs q=>by rw[uS (vM q hn)];exact q) λc o u q=>by rw[uS (vM q hn)];exact q
end
def Rd(H:Hp)(a:g_)(u:HO):Prop:=H a=some u\/∃o,H a=some (.frz o u)
theorem Rd.ok{P:u_}{w:C_}{H:Hp}{a:g_}{u:HO}(r:Rd H a u)(x:HOk P w H h):ObjOk P w H h a u:=by
 rcases r with r | ⟨o,r⟩
 ·exact x a u r
 ·obtain⟨_,q⟩:=x a _ r;exact q
def Mut:Option HO->Prop
 | some (.lst _)=>True
 | some (.dK _)=>True
 | some (.dT _)=>True
 | some (.set _ _)=>True
 | some (.ins _ _ _)=>True
 | some (.ext _)=>True
 | _=>False
section
variable{P:u_}{w:C_}{H:Hp}{x e:g_}{o':HO}
theorem HOk.write(ok:HOk P w H h)(mu:Mut (H x))(he:e=x\/H e=some (.own x))(k:∀b u,b≠e->h.get? b=some u->h'.get? b=some u)(gM:∃u,h'.get? e=some u)(new:ObjOk P w (upd H x o') h' x o'):HOk P w (upd H x o') h':=λb u q=>by
 have kK:∀c y,H c=some (.own y)->c≠x:=λc y r z=>by subst z;rw[r] at mu;exact mu
 have nA:∀c xs,H c=some (.tup xs)->c≠x:=λc xs r z=>by subst z;rw[r] at mu;exact mu
 by_cases hb:b=x
 ·subst hb;rw[u3] at q;cases q;exact new
 ·rw[uS hb] at q;by_cases hbe:b=e
  ·have q':H b=some (.own x):=by
    rcases he with z | z
    ·exact absurd (hbe.trans z) hb
    ·rw[hbe];exact z
   rw[q] at q';cases q';obtain⟨v,hv⟩:=gM;exact⟨v,by rw[hbe];exact hv⟩
  ·refine(ok b u q).stay (λc v hc r=>k c v ?_ r) (λc r=>by rw[uS (kK c b r)];exact r) (λc xs r=>by rw[uS (nA c xs r)];exact r) λc o u r=>by rw[uS (λz=>by subst z;rw[r] at mu;exact mu)];exact r
   rcases hc with rfl | hc
   ·exact hbe
   ·rintro rfl
    rcases he with z | z
    ·exact kK c b hc z
    ·rw[hc] at z;cases z;exact hb rfl
end
structure Un(fs ex:List g_)(H H':Hp)(h h':K_):Prop where
 keep:∀b o,h.get? b=some o->H b=none->b∉fs->b∉ex->h'.get? b=some o
 slot:∀b o,h.get? b=some o->H b=none->b∈fs->b∉ex->∃sl,h'.get? b=some { o with slots:=sl }
 free:∀b o,h.get? b=some o->H b=none->b∉ex->H' b=none
 there:∀b o,h.get? b=some o->b∉ex->∃o',h'.get? b=some o'
 tups:∀b xs,H b=some (.tup xs)->H' b=some (.tup xs)
 frzs:∀b o u,H b=some (.frz o u)->H' b=some (.frz o u)
 tbls:∀b q,H b=some (.tbl q)->H' b=some (.tbl q)
section
variable{fs qj ex tZ:List g_}{H H1 H2:Hp}{h1 h2:K_}{a x e:g_}{o:HO}
theorem Un.any(u:Un fs ex H H1 h h1){b:g_}{ob:Obj}(q:h.get? b=some ob)(n:H b=none)(hx:b∉ex):∃sl,h1.get? b=some { ob with slots:=sl }:=by
 by_cases hb:b∈fs
 ·exact u.slot b ob q n hb hx
 ·exact⟨ob.slots,u.keep b ob q n hb hx⟩
theorem Un.kept(k:∀b u,h.get? b=some u->h'.get? b=some u):Un fs ex H H h h':=
 ⟨λb ob q _ _ _=>k b ob q,λb ob q _ _ _=>⟨ob.slots,k b ob q⟩,λ_ _ _ n _=>n,λb ob q _=>⟨ob,k b ob q⟩,λ_ _ q=>q,λ_ _ _ q=>q,λ_ _ q=>q⟩
theorem Un.refl:Un fs ex H H h h:=Un.kept λ_ _ q=>q
theorem Un.laid(k:∀b u,h.get? b=some u->h'.get? b=some u)(hp:h.objs.size<=a)(hn:H a=none):Un fs ex H (upd H a o) h h' where
 keep:=λb u q _ _ _=>k b u q
 slot:=λb u q _ _ _=>⟨u.slots,k b u q⟩
 free:=λb u q n _=>by rw[uS (H_ (G_ (w_ q) hp))];exact n
 there:=λb u q _=>⟨u,k b u q⟩
 tups:=λb xs q=>by rw[uS (vM q hn)];exact q
 frzs:=λb u xs q=>by rw[uS (vM q hn)];exact q
 tbls:=λb xs q=>by rw[uS (vM q hn)];exact q
theorem Un.write(mu:Mut (H x))(he:e=x\/H e=some (.own x))(k:∀b u,b≠e->h.get? b=some u->h'.get? b=some u)(gM:∃u,h'.get? e=some u):Un fs ex H (upd H x o) h h':=by
 have hx:∀b,H b=none->b≠x:=λb n z=>by subst z;rw[n] at mu;exact mu
 have hb:∀b,H b=none->b≠e:=λb n z=>by
  subst z
  rcases he with r | r
  ·exact hx b n r
  ·rw[n] at r;cases r
 have hm:∀b u,H b=some u->¬Mut (some u)->b≠x:=λb u q nm z=>by subst z;rw[q] at mu;exact nm mu
 refine⟨λb u q n _ _=>k b u (hb b n) q,λb u q n _ _=>⟨u.slots,k b u (hb b n) q⟩,λb u q n _=>by rw[uS (hx b n)];exact n,λb u q _=>?_,
  λb xs q=>by rw[uS (hm b _ q λz=>z)];exact q,λb u xs q=>by rw[uS (hm b _ q λz=>z)];exact q,λb xs q=>by rw[uS (hm b _ q λz=>z)];exact q⟩
 by_cases hbe:b=e
 ·subst hbe;exact gM
 ·exact⟨u,k b u hbe q⟩
end
noncomputable def trk(h:K_)(H:Hp):List g_:=(RR h.objs.size).filter λa=>(H a).isSome
noncomputable def hidT(h:K_)(H:Hp):K_:=PySem.W.hideAll h (trk h H)
theorem Ib(h:K_)(H:Hp):(hidT h H).objs.size=h.objs.size:=PySem.W.hideAll_size _ _
theorem ON{H:Hp}{b:g_}{o:Obj}(e:h.get? b=some o)(n:H b=none):(hidT h H).get? b=some o:=
 PySem.W.hideAll_get _ e λhm=>by
  have q:(H b).isSome=true:=(Va.mp hm).2;rw[n] at q;simp at q
theorem Ot{H:Hp}{b:g_}{o:Obj}(e:(hidT h H).get? b=some o):h.get? b=some o/\H b=none:=by
 have e':h.get? b=some o:=PySem.W.of_hideAll (trk h H) e;refine⟨e',?_⟩;cases q:H b with
 | none=>rfl
 | some x =>
  have hm:b∈trk h H:=Va.mpr ⟨Su.mpr (w_ e'),by simp[q]⟩;have z:(hidT h H).get? b=none:=PySem.W.hideAll_none (trk h H) hm;rw[z] at e;cases e
def TabsOk(K:PySem.W.Frag)(H:Hp):Prop:=∀c P,Td K "letter_left"=some (c,P)->H P=some (.tbl "letter_left.<locals>.<lambda>")
structure Mod(K:PySem.W.Frag)(mg:Str->Option b_)(base:K_):Prop where
 kin:K.In base
 glob:base.Ns Q6 mg
 blt:∃mb,base.Ns Tx mb/\∀x:Str,x ≠ "__name__"->mb x=RU x
 nolimit:base.NoLimit
 bm:∃bm ob,mg "__builtins__"=some (.ref bm)/\bm≠Tx/\base.get? bm=some ob/\ob.cls=.type "module"/\ob.dict=some Tx/\ob.data=.plain
 cod:∀c P,Td K "letter_left"=some (c,P)->PySem.W.CodeHd base c P
structure Cx where
 prog:u_
 w:C_
 K:PySem.W.Frag
 mg:Str->Option b_
 base:K_
 A:Rh
 N:List Str
 s₀:c_
 H₀:Hp
 env:Env
 outer:List Env
 stack:List Env
 ex:List g_
 fn:Str->Bool
 calm:Bool
 pn:List (g_×Obj)
 xe:b_->c_->Prop
noncomputable def frs(l:List Env):List g_:=l.filterMap (·.frame)
noncomputable abbrev Cx.fs(X:Cx):List g_:=frs X.outer
def Vis(sc:Te)(x:Str):Prop:=sc.names.lookup x=some .local\/sc.names.lookup x=some .cell\/sc.names.lookup x=some .free
def Loc(sc:Te)(x:Str):Prop:=sc.names.lookup x=some .local\/sc.names.lookup x=some .cell
noncomputable def visB(s:Te)(x:Str):Bool:=match s.names.lookup x with|some .local=>true|some .cell=>true|some .free=>true|_=>false
noncomputable def locB(s:Te)(x:Str):Bool:=match s.names.lookup x with|some .local=>true|some .cell=>true|_=>false
noncomputable def fnB(X:Cx)(x:Str):Bool:=X.fn x||match X.env.scope.names.lookup x with|some .local=>true|_=>false
theorem visI{s:Te}{x:Str}(h:visB s x=true):Vis s x:=by
 unfold visB at h;unfold Vis;split at h<;>simp_all
theorem locI{s:Te}{x:Str}(h:locB s x=true):Loc s x:=by
 unfold locB at h;unfold Loc;split at h<;>simp_all
theorem fnI{X:Cx}{x:Str}(h:fnB X x=true):X.fn x=true\/X.env.scope.names.lookup x=some .local:=by
 unfold fnB at h;cases e:X.fn x with
 | true=>exact .inl rfl
 | false=>rw[e,Bool.false_or] at h;split at h<;>simp_all
def Look(env:Env)(h:K_)(m:Str->Option b_)(x:Str)(u:b_):Prop:=
 (env.kindOf x=some .local/\m x=some u)\/((env.kindOf x=some .cell\/env.kindOf x=some .free)/\∃c,env.cells.lookup x=some c/\h.IsCell c (some u))
structure Cx.Ok(X:Cx):Prop where
 mod:Mod X.K X.mg X.base
 kind:X.env.scope.kind=.function
 glob:X.env.globals=Q6
 blt:X.env.builtins=Tx
 above:X.s₀.heap.objs.size<=X.env.locals
 inj:∀x y c,X.env.cells.lookup x=some c->X.env.cells.lookup y=some c->x=y
 has:∀x,(X.env.kindOf x=some .cell\/X.env.kindOf x=some .free)->∃c,X.env.cells.lookup x=some c
 cab:∀x c,X.fn x=true->X.env.cells.lookup x=some c->X.s₀.heap.objs.size<=c
 hd:X.calm=true->X.A.handled=none
 frames:X.A.frames=some X.stack
 stk:X.stack=X.outer\/(X.stack=X.env::X.outer/\X.env.frame=some X.env.locals)
 exf:∀b∈X.ex,b≠X.env.locals/\∀x c,X.env.cells.lookup x=some c->c≠b
 bs:∀b o,X.base.get? b=some o->X.s₀.heap.get? b=some o/\X.H₀ b=none
 bsz:X.base.objs.size<=X.s₀.heap.objs.size
 noex:∀b o,X.base.get? b=some o->b∉X.ex
 exfs:∀b∈X.ex,b∉X.fs
 funs:X.s₀.heap.FunFrames X.base X.outer
 frf:∀b∈X.fs,X.H₀ b=none
 tb:TabsOk X.K X.H₀
structure Inv(X:Cx)(aa:List (g_×Obj))(U:List (Option V))(H:Hp)(s:c_):Prop where
 ok:X.Ok
 os:s.os=X.s₀.os
 bare:Tf s.gens
 base:Un X.fs X.ex X.H₀ H X.s₀.heap s.heap
 loc:∃m,s.heap.Ns X.env.locals m/\∀(i:Nat) (x:Str) (v:V),X.N[i]?=some x->U[i]?=some (some v)->Vis X.env.scope x->∃u,RelV v u/\Look X.env s.heap m x u
 cell:∀x c,X.env.cells.lookup x=some c->∃v,s.heap.IsCell c v
 free:H X.env.locals=none
 freeC:∀x c,X.env.cells.lookup x=some c->H c=none
 pin:∀p∈X.pn++aa,s.heap.get? p.1=some p.2/\H p.1=none/\p.1≠X.env.locals/\p.1∉X.fs/\∀v,p.2.data≠.cell v
 hok:HOk X.prog X.w H s.heap
 len:U.length=X.N.length
section
variable{X:Cx}{U:List (Option V)}{H H':Hp}{s:c_}
theorem Cx.Ok.nofr(ok:X.Ok){b:g_}{o:Obj}(e:X.base.get? b=some o):b∉X.fs:=λhb=>by
 have:=(ok.funs.mem hb).1;rw[e] at this;cases this
theorem Inv.bs(I:Inv X aa U H s):∀b o,X.base.get? b=some o->s.heap.get? b=some o/\H b=none:=λb o e =>
 ⟨I.base.keep b o (I.ok.bs b o e).1 (I.ok.bs b o e).2 (I.ok.nofr e) (I.ok.noex b o e),I.base.free b o (I.ok.bs b o e).1 (I.ok.bs b o e).2 (I.ok.noex b o e)⟩
theorem Inv.bk(I:Inv X aa U H s):∀b o,X.base.get? b=some o->s.heap.get? b=some o:=λb o e=>(I.bs b o e).1
theorem Inv.mod(I:Inv X aa U H s):Mod X.K X.mg X.base:=I.ok.mod
theorem Inv.kIn(I:Inv X aa U H s):X.K.In s.heap:=I.ok.mod.kin.keeps I.bk
theorem Inv.nolimit(I:Inv X aa U H s):s.heap.NoLimit:=I.ok.mod.nolimit.keeps I.bk
theorem Inv.lt(I:Inv X aa U H s):X.env.locals < s.heap.objs.size:=let ⟨_,hn,_⟩:=I.loc;hn.lt
theorem Inv.sz(I:Inv X aa U H s):X.s₀.heap.objs.size<=s.heap.objs.size:=z_ I.ok.above (TR I.lt)
theorem Inv.nofs(I:Inv X aa U H s){a:g_}(h:s.heap.objs.size<=a):a∉X.fs:=λhb=>by
 obtain⟨_,o,ho,_⟩:=I.ok.funs.mem hb;exact absurd (G_ (w_ ho) (z_ I.sz h)) (RZ _)
theorem Inv.cne(I:Inv X aa U H s):∀x c,X.env.cells.lookup x=some c->c≠X.env.locals:=λx c e z=>by
 obtain⟨v,o,ho,hd⟩:=I.cell x c e;obtain⟨m,⟨o',es,ep,cz,bS,_⟩,_⟩:=I.loc;rw[z,cz] at ho;cases ho;rw[bS] at hd;cases hd
theorem Inv.funs(I:Inv X aa U H s):s.heap.FunFrames X.base X.outer:=by
 have all:∀(l:List Env),(∀b∈frs l,b∈X.fs)->X.s₀.heap.FunFrames X.base l->s.heap.FunFrames X.base l:=by
  intro l
  induction l with
  | nil=>intro _ _;trivial
  | cons env r ih =>
   intro hs hl;obtain⟨hk,⟨L,o,hf,hn,ho,hd⟩,hr⟩:=hl;have hL:L∈X.fs:=hs L (by unfold frs;rw[SH,hf];exact v_);obtain⟨sl,e⟩:=I.base.slot L o ho (I.ok.frf L hL) hL λz=>I.ok.exfs L z hL
   exact⟨hk,⟨L,_,hf,hn,e,hd⟩,ih (λb hb=>hs b (by unfold frs;rw[SH,hf];exact s_ _ hb)) hr⟩
 exact all X.outer (λ_ hb=>hb) I.ok.funs
theorem Inv.stack(I:Inv X aa U H s):s.heap.FunFrames X.base X.stack:=by
 rcases I.ok.stk with e | ⟨e,hf⟩
 ·rw[e];exact I.funs
 ·rw[e];obtain⟨m,hn,_⟩:=I.loc;refine .cons (by rw[I.ok.kind];decide) hf hn ?_ I.funs;exact Ss (z_ I.ok.bsz I.ok.above)
theorem Inv.stkSub(I:Inv X aa U H s):∀b∈frs X.stack,b∈X.env.locals::X.fs:=λb hb=>by
 rcases I.ok.stk with e | ⟨e,hf⟩
 ·rw[e] at hb;exact s_ _ hb
 ·rw[e] at hb;unfold frs at hb;rw[SH,hf] at hb;exact hb
theorem Inv.stkFree(I:Inv X aa U H s):∀b∈frs X.stack,H b=none:=λb hb=>by
 rcases A_.mp (I.stkSub b hb) with e | hb
 ·rw[e];exact I.free
 ·obtain⟨_,o,ho,_⟩:=I.ok.funs.mem hb;exact I.base.free b o ho (I.ok.frf b hb) λz=>I.ok.exfs b z hb
theorem Inv.stepN(I:Inv X aa U H s)(bf:∀b∈ch,(b∈X.ex\/X.s₀.heap.get? b=none)/\b≠X.env.locals/\(∀x c,X.env.cells.lookup x=some c->c≠b)/\∀p∈X.pn++aa,p.1≠b)(keep:∀b o,b≠X.env.locals->b∉X.fs->b∉ch->s.heap.get? b=some o->H b=none->h'.get? b=some o)(slot:∀b o,b≠X.env.locals->b∈X.fs->b∉ch->s.heap.get? b=some o->H b=none->∃sl,h'.get? b=some { o with slots:=sl })(free:∀b o,b∉ch->s.heap.get? b=some o->H b=none->H' b=none)(there:∀b o,b∉ch->s.heap.get? b=some o->∃o',h'.get? b=some o')(tups:∀b xs,H b=some (.tup xs)->H' b=some (.tup xs))(frzs:∀b o u,H b=some (.frz o u)->H' b=some (.frz o u))(tbls:∀b q,H b=some (.tbl q)->H' b=some (.tbl q))(ns:∀m,s.heap.Ns X.env.locals m->h'.Ns X.env.locals m)(hok:HOk X.prog X.w H' h')(hg:Tf g'):
  Inv X aa U H' { s with heap:=h',gens:=g',drawn:=d',toks:=t' }:=by
 have gN:∀b o,X.s₀.heap.get? b=some o->b≠X.env.locals:=λb o e=>H_ (G_ (w_ e) I.ok.above)
 have gO:∀b o,X.s₀.heap.get? b=some o->b∉X.ex->b∉ch:=λb o e hx hb=>by
  rcases(bf b hb).1 with z | z
  ·exact hx z
  ·rw[z] at e;cases e
 have ig:∀x c,X.env.cells.lookup x=some c->∀v,s.heap.IsCell c v->h'.IsCell c v:=λx c e v ⟨o,ho,hd⟩=>by
  have cL:c∉ch:=λz=>(bf c z).2.2.1 x c e rfl
  by_cases hc:c∈X.fs
  ·obtain⟨sl,q⟩:=slot c o (I.cne x c e) hc cL ho (I.freeC x c e);exact⟨_,q,hd⟩
  ·exact⟨o,keep c o (I.cne x c e) hc cL ho (I.freeC x c e),hd⟩
 refine⟨I.ok,I.os,hg,⟨λb o e n hb hx=>?_,λb o e n hb hx=>?_,λb o e n hx=>?_,λb o e hx=>?_,λb xs e=>tups b xs (I.base.tups b xs e),λb o xs e=>frzs b o xs (I.base.frzs b o xs e),λb ps e=>?_⟩,?_,λx c e=>?_,?_,λx c e=>?_,λp hp=>?_,hok,I.len⟩
 ·exact keep b o (gN b o e) hb (gO b o e hx) (I.base.keep b o e n hb hx) (I.base.free b o e n hx)
 ·obtain⟨sl,e1⟩:=I.base.slot b o e n hb hx;obtain⟨lq,e2⟩:=slot b _ (gN b o e) hb (gO b o e hx) e1 (I.base.free b o e n hx);exact⟨lq,e2⟩
 ·obtain⟨o',e1⟩:=I.base.there b o e hx;exact free b o' (gO b o e hx) e1 (I.base.free b o e n hx)
 ·obtain⟨o',e1⟩:=I.base.there b o e hx;exact there b o' (gO b o e hx) e1
 ·exact tbls b ps (I.base.tbls b ps e)
 ·obtain⟨m,hn,hl⟩:=I.loc;refine⟨m,ns m hn,λi x v e1 e2 e3=>?_⟩;obtain⟨u,r,l⟩:=hl i x v e1 e2 e3;refine⟨u,r,?_⟩
  rcases l with l | ⟨k,c,e,z⟩
  ·exact .inl l
  ·exact .inr ⟨k,c,e,ig x c e _ z⟩
 ·obtain⟨v,z⟩:=I.cell x c e;exact⟨v,ig x c e v z⟩
 ·obtain⟨m,⟨o,_,_,ho,_⟩,_⟩:=I.loc;exact free _ o (λz=>(bf _ z).2.1 rfl) ho I.free
 ·obtain⟨v,o,ho,hd⟩:=I.cell x c e;exact free c o (λz=>(bf c z).2.2.1 x c e rfl) ho (I.freeC x c e)
 ·obtain⟨e,n,ne,nf,d⟩:=I.pin p hp;have cL:p.1∉ch:=λz=>(bf p.1 z).2.2.2 p hp rfl
  exact⟨keep p.1 p.2 ne nf cL e n,free p.1 p.2 cL e n,ne,nf,d⟩
theorem Inv.step(I:Inv X aa U H s)(bf:∀b∈ch,(b∈X.ex\/X.s₀.heap.objs.size<=b)/\b≠X.env.locals/\(∀x c,X.env.cells.lookup x=some c->c≠b)/\∀p∈X.pn++aa,p.1≠b)(keep:∀b o,b≠X.env.locals->b∉X.fs->b∉ch->s.heap.get? b=some o->H b=none->h'.get? b=some o)(slot:∀b o,b≠X.env.locals->b∈X.fs->b∉ch->s.heap.get? b=some o->H b=none->∃sl,h'.get? b=some { o with slots:=sl })(free:∀b o,b∉ch->s.heap.get? b=some o->H b=none->H' b=none)(there:∀b o,b∉ch->s.heap.get? b=some o->∃o',h'.get? b=some o')(tups:∀b xs,H b=some (.tup xs)->H' b=some (.tup xs))(frzs:∀b o u,H b=some (.frz o u)->H' b=some (.frz o u))(tbls:∀b q,H b=some (.tbl q)->H' b=some (.tbl q))(ns:∀m,s.heap.Ns X.env.locals m->h'.Ns X.env.locals m)(hok:HOk X.prog X.w H' h')(hg:Tf g'):
  Inv X aa U H' { s with heap:=h',gens:=g',drawn:=d',toks:=t' }:=
 I.stepN (λb hb=>⟨(bf b hb).1.imp id Ss,(bf b hb).2⟩) keep slot free there tups frzs tbls ns hok hg
theorem Inv.un(I:Inv X aa U H s)(u:Un X.fs [] H H' s.heap h')(hok:HOk X.prog X.w H' h'):Inv X aa U H' { s with heap:=h',toks:=t' }:=by
 obtain⟨m,⟨o,es,ep,ho,r⟩,_⟩:=id I.loc;obtain⟨sl,hL⟩:=u.any ho I.free (by simp)
 exact I.step (g':=s.gens) (d':=s.drawn) (ch:=[]) (λ_ z=>nomatch z) (λb o _ hb _ e n=>u.keep b o e n hb (by simp)) (λb o _ hb _ e n=>u.slot b o e n hb (by simp)) (λb o _ e n=>u.free b o e n (by simp)) (λb o _ e=>u.there b o e (by simp)) u.tups u.frzs u.tbls (λm' hm=>by
  obtain⟨o',es',lr,cz,r'⟩:=hm;rw[ho] at cz;cases cz
  exact⟨_,es',lr,hL,r'⟩) hok I.bare
theorem Inv.callN(I:Inv X aa U H s)(u:Un (frs X.stack) ch H H' s.heap h')(hok:HOk X.prog X.w H' h')(hg:Tf g')(bf:∀b∈ch,(b∈X.ex\/X.s₀.heap.get? b=none)/\b≠X.env.locals/\(∀x c,X.env.cells.lookup x=some c->c≠b)/\∀p∈X.pn++aa,p.1≠b):
  Inv X aa U H' { s with heap:=h',gens:=g',drawn:=d',toks:=t' }:=by
 obtain⟨m,⟨o,es,ep,ho,r⟩,_⟩:=id I.loc;obtain⟨sl,hL⟩:=u.any ho I.free λz=>(bf _ z).2.1 rfl
 exact I.stepN (ch:=ch) bf (λb o hL hb hc e n=>u.keep b o e n (λz=>(A_.mp (I.stkSub b z)).elim hL hb) hc) (λb o _ _ hc e n=>u.any e n hc) (λb o hc e n=>u.free b o e n hc) (λb o hc e=>u.there b o e hc) u.tups u.frzs u.tbls (λm' hm=>by
  obtain⟨o',es',lr,cz,r'⟩:=hm;rw[ho] at cz;cases cz
  exact⟨_,es',lr,hL,r'⟩) hok hg
theorem Inv.call(I:Inv X aa U H s)(u:Un (frs X.stack) ch H H' s.heap h')(hok:HOk X.prog X.w H' h')(hg:Tf g')(bf:∀b∈ch,(b∈X.ex\/X.s₀.heap.objs.size<=b)/\b≠X.env.locals/\(∀x c,X.env.cells.lookup x=some c->c≠b)/\∀p∈X.pn++aa,p.1≠b):
  Inv X aa U H' { s with heap:=h',gens:=g',drawn:=d',toks:=t' }:=
 I.callN u hok hg λb hb=>⟨(bf b hb).1.imp id Ss,(bf b hb).2⟩
theorem Inv.turned{it:g_}(I:Inv X aa U H s)(k:∀b o,b≠it->s.heap.get? b=some o->h'.get? b=some o)(hn:H it=none)(hL:it≠X.env.locals)(h1:it∈X.ex\/X.s₀.heap.objs.size<=it)(h2:∀x c,X.env.cells.lookup x=some c->c≠it)(h3:∀p∈X.pn++aa,p.1≠it):Inv X aa U H { s with heap:=h',toks:=t' }:=by
 have nB:∀b u,H b=some u->b≠it:=λb u e z=>by rw[z,hn] at e;cases e
 refine I.step (g':=s.gens) (d':=s.drawn) (ch:=[it]) (λb hb=>?_) (λb o _ _ hc e _=>k b o (λz=>hc (by simp[z])) e) (λb o _ _ hc e _=>⟨o.slots,k b o (λz=>hc (by simp[z])) e⟩) (λ_ _ _ _ n=>n)
  (λb o hc e=>⟨o,k b o (λz=>hc (by simp[z])) e⟩) (λ_ _ e=>e) (λ_ _ _ e=>e) (λ_ _ e=>e) (λm hm=>?_) (λb u e=>?_) I.bare
 ·have e:b=it:=by simpa using hb
  subst e;exact⟨h1,hL,h2,h3⟩
 ·obtain⟨o,es,ep,ho,r⟩:=hm;exact⟨o,es,ep,k _ o (QW hL) ho,r⟩
 ·refine(I.hok b u e).stay (λc v hc q=>k c v ?_ q) (λ_ q=>q) (λ_ _ q=>q) λ_ _ _ q=>q
  rcases hc with z | z
  ·rw[z];exact nB b u e
  ·exact nB c _ z
theorem Inv.tok(I:Inv X aa U H s)(t:Nat):Inv X aa U H { s with toks:=t }:=I.un (h':=s.heap) (t':=t) Un.refl I.hok
theorem Inv.kept(I:Inv X aa U H s)(k:∀b u,s.heap.get? b=some u->h'.get? b=some u):Inv X aa U H { s with heap:=h',toks:=t' }:=I.un (Un.kept k) (I.hok.kept k)
theorem Inv.laid{a:g_}{o:HO}(I:Inv X aa U H s)(k:∀b u,s.heap.get? b=some u->h'.get? b=some u)(hp:s.heap.objs.size<=a)(new:ObjOk X.prog X.w (upd H a o) h' a o):
  Inv X aa U (upd H a o) { s with heap:=h',toks:=t' }:=I.un (Un.laid k hp (I.hok.fresh hp)) (I.hok.laid k hp new)
theorem Inv.write{x e:g_}{o:HO}(I:Inv X aa U H s)(mu:Mut (H x))(he:e=x\/H e=some (.own x))(k:∀b u,b≠e->s.heap.get? b=some u->h'.get? b=some u)(gM:∃u,h'.get? e=some u)(new:ObjOk X.prog X.w (upd H x o) h' x o):Inv X aa U (upd H x o) { s with heap:=h',toks:=t' }:=I.un (Un.write mu he k gM) (I.hok.write mu he k gM new)
theorem Inv.pins_of(I:Inv X aa U H s)(h:∀p∈ii,s.heap.get? p.1=some p.2/\H p.1=none/\p.1≠X.env.locals/\p.1∉X.fs/\∀v,p.2.data≠.cell v):Inv X ii U H s:=
 ⟨I.ok,I.os,I.bare,I.base,I.loc,I.cell,I.free,I.freeC,λp hp=>(Q8.mp hp).elim (λz=>I.pin p (Rl _ z)) (h p),I.hok,I.len⟩
theorem BD(hN:N.Nodup){i j:Nat}{x:Str}(a:N[i]?=some x)(b:N[j]?=some x):i=j:=by
 obtain⟨h1,e1⟩:=n_.mp a;obtain⟨h2,e2⟩:=n_.mp b;exact(List.getElem_inj hN).mp (e1.trans e2.symm)
theorem DC{M:WB}{E:b_->c_->Prop}{i:Nat}{x:Str}{v:V}{u:b_}{Q:Unit->c_->Prop}(I:Inv X aa U H s)(hN:X.N.Nodup)(hi:X.N[i]?=some x)(hx:Loc X.env.scope x)(r:RelV v u)(h:∀s',Inv X aa (U.set i (some v)) H s'->(∃a,K_.SameBut a s.heap s'.heap/\(a=X.env.locals\/X.env.cells.lookup x=some a))->Q () s')(hf:X.fn x=true\/X.env.scope.names.lookup x=some .local):m_ M A (storeName X.env x u) Q E s:=by
 obtain⟨m,hn,hl⟩:=id I.loc;have nC:(X.env.scope.kind == .class||(X.env.scope.kind == .module&&X.env.locals != X.env.globals))=false:=by rw[I.ok.kind];rfl
 have kL:i < U.length:=by rw[I.len];exact(n_.mp hi).1
 have cne:=I.cne
 have dC:∀{a:g_}{h':K_},(∃o,s.heap.get? a=some o/\H a=none)->K_.SameBut a s.heap h'->HOk X.prog X.w H h':=λ{a h'} ha hs b ob e=>by
  obtain⟨_,_,eB⟩:=ha;refine(I.hok b ob e).stay (λc w' hc q=>(hs.2 c ?_).trans q) (λ_ q=>q) (λ_ _ q=>q) λ_ _ _ q=>q
  rintro rfl
  rcases hc with rfl | hc
  ·rw[eB] at e;cases e
  ·rw[eB] at hc;cases hc
 rcases hx with hk | hk
 ·refine wpAny_storeName_local hk hn (λh' dW hs=>?_) nC;obtain⟨oL,_,_,nD,_⟩:=id hn;refine h _ ⟨I.ok,I.os,I.bare,⟨λb o e n hb hx=>?_,λb o e n hb hx=>?_,I.base.free,λb o e hx=>?_,I.base.tups,I.base.frzs,I.base.tbls⟩,⟨_,dW,λj y v' e1 e2 e3=>?_⟩,λy c e=>?_,I.free,I.freeC,λp hp=>?_,dC ⟨oL,nD,I.free⟩ hs,by simpa using I.len⟩ ⟨_,hs,.inl rfl⟩
  ·exact(hs.2 b (H_ (G_ (w_ e) I.ok.above))).trans (I.base.keep b o e n hb hx)
  ·obtain⟨sl,e1⟩:=I.base.slot b o e n hb hx;exact⟨sl,(hs.2 b (H_ (G_ (w_ e) I.ok.above))).trans e1⟩
  ·obtain⟨o',e1⟩:=I.base.there b o e hx;exact⟨o',(hs.2 b (H_ (G_ (w_ e) I.ok.above))).trans e1⟩
  ·by_cases hj:j=i
   ·subst hj;rw[hi] at e1;cases e1;rw[Sl kL] at e2;cases e2;exact⟨u,r,.inl ⟨hk,by simp⟩⟩
   ·rw[Rf (QW hj)] at e2;obtain⟨u',r',q⟩:=hl j y v' e1 e2 e3;refine⟨u',r',?_⟩
    rcases q with⟨k,e⟩ | ⟨k,c,e,z⟩
    ·refine .inl ⟨k,?_⟩;have:y≠x:=λe=>hj (BD hN e1 (e▸hi))
     simp[this,e]
    ·exact .inr ⟨k,c,e,z.sameBut hs (cne y c e)⟩
  ·obtain⟨w',z⟩:=I.cell y c e;exact⟨w',z.sameBut hs (cne y c e)⟩
  ·obtain⟨e,n,ne,nf,d⟩:=I.pin p hp;exact⟨(hs.2 p.1 ne).trans e,n,ne,nf,d⟩
 ·have lx:X.fn x=true:=by
   rcases hf with z | z
   ·exact z
   ·rw[z] at hk;cases hk
  obtain⟨c,hc⟩:=I.ok.has x (.inl hk);obtain⟨w',z⟩:=I.cell x c hc;refine wpAny_storeName_cell I.ok.kind hk hc z (λh' aO hs=>?_);obtain⟨oc,ij,nE⟩:=id z;refine h { s with heap:=h' } ⟨I.ok,I.os,I.bare,⟨λb o e n hb hx=>?_,λb o e n hb hx=>?_,I.base.free,λb o e hx=>?_,I.base.tups,I.base.frzs,I.base.tbls⟩,⟨m,hn.sameBut hs (QW (cne x c hc)),λj y v' e1 e2 e3=>?_⟩,λy c' e=>?_,I.free,I.freeC,λp hp=>?_,dC ⟨oc,ij,I.freeC x c hc⟩ hs,by simpa using I.len⟩ ⟨c,hs,.inr hc⟩
  ·exact(hs.2 b (H_ (G_ (w_ e) (I.ok.cab x c lx hc)))).trans (I.base.keep b o e n hb hx)
  ·obtain⟨sl,e1⟩:=I.base.slot b o e n hb hx;exact⟨sl,(hs.2 b (H_ (G_ (w_ e) (I.ok.cab x c lx hc)))).trans e1⟩
  ·obtain⟨o',e1⟩:=I.base.there b o e hx;exact⟨o',(hs.2 b (H_ (G_ (w_ e) (I.ok.cab x c lx hc)))).trans e1⟩
  ·by_cases hj:j=i
   ·subst hj;rw[hi] at e1;cases e1;rw[Sl kL] at e2;cases e2;exact⟨u,r,.inr ⟨.inl hk,c,hc,aO⟩⟩
   ·rw[Rf (QW hj)] at e2;obtain⟨u',r',q⟩:=hl j y v' e1 e2 e3;refine⟨u',r',?_⟩
    rcases q with q | ⟨k,c',e,z'⟩
    ·exact .inl q
    ·refine .inr ⟨k,c',e,z'.sameBut hs ?_⟩;rintro rfl;exact hj (BD hN e1 (I.ok.inj _ _ _ e hc▸hi))
  ·by_cases lA:c'=c
   ·subst lA;exact⟨_,aO⟩
   ·obtain⟨w2,z2⟩:=I.cell y c' e;exact⟨w2,z2.sameBut hs lA⟩
  ·obtain⟨e,n,ne,nf,d⟩:=I.pin p hp;refine⟨(hs.2 p.1 ?_).trans e,n,ne,nf,d⟩;intro q;rw[q,ij] at e;have q':oc=p.2:=QX e;exact d w' (by rw[←q'];exact nE)
theorem CL{M:WB}{E:b_->c_->Prop}{i:Nat}{x:Str}{v:V}{u:b_}{Q:Unit->c_->Prop}(I:Inv X aa U H s)(hN:X.N.Nodup)(hi:X.N[i]?=some x)(hx:Loc X.env.scope x)(r:RelV v u)(h:∀s',Inv X aa (U.set i (some v)) H s'->Q () s')(hf:X.fn x=true\/X.env.scope.names.lookup x=some .local):m_ M A (storeName X.env x u) Q E s:=
 DC I hN hi hx r (λs' I' _=>h s' I') hf
theorem Inv.call'(I:Inv X aa U H s)(ho:s'.os=s.os)(u:Un (frs X.stack) ch H H' s.heap s'.heap)(hok:HOk X.prog X.w H' s'.heap)(hg:Tf s'.gens)(bf:∀b∈ch,(b∈X.ex\/X.s₀.heap.objs.size<=b)/\b≠X.env.locals/\(∀x c,X.env.cells.lookup x=some c->c≠b)/\∀p∈X.pn++aa,p.1≠b):Inv X aa U H' s':=by
 obtain⟨h',g',d',t',o'⟩:=s';have e:o'=s.os:=ho;subst e;exact I.call (g':=g') (t':=t') (d':=d') u hok hg bf
end
abbrev XK:=b_->Option g_->Hp->Prop
abbrev St:=List (Option V)
abbrev VK:=V->Hp->Prop
abbrev TE:=St->Hp->VK->Prop
abbrev TT:=St->Hp->(Bool->Hp->Prop)->Prop
abbrev TA:=St->Hp->(List V->Hp->Prop)->Prop
structure Ends where
 nx:St->Hp->Prop
 rt:VK
 bk:St->Hp->Prop:=λ_ _=>False
 ct:St->Hp->Prop:=λ_ _=>False
abbrev TS:=Ends->St->Hp->Prop
def EP(X:Cx)(aa:List (g_×Obj))(U:St)(Q:VK)(u:b_)(s':c_):Prop:=∃v H',Inv X aa U H' s'/\RelV v u/\Q v H'
def TP(X:Cx)(aa:List (g_×Obj))(U:St)(Q:Bool->Hp->Prop)(b:Bool)(s':c_):Prop:=∃H',Inv X aa U H' s'/\Q b H'
def AP(X:Cx)(aa:List (g_×Obj))(U:St)(Q:List V->Hp->Prop)(us:List b_)(s':c_):Prop:=∃vs H',Inv X aa U H' s'/\Vals vs us/\Q vs H'
def SP(X:Cx)(aa:List (g_×Obj))(D:Ends)(f:Flow)(s':c_):Prop:=
 match f with
 | .next=>∃ai H',Inv X aa ai H' s'/\D.nx ai H'
 | .brk=>∃ai H',Inv X aa ai H' s'/\D.bk ai H'
 | .cont=>∃ai H',Inv X aa ai H' s'/\D.ct ai H'
 | .ret u=>∃v ai H',Inv X aa ai H' s'/\RelV v u/\D.rt v H'
def PE(X:Cx)(e:L_)(t:TE):Prop:=
 ∀(aa:List (g_×Obj)) (s:c_) (U:St) (H:Hp) (Q:VK),Inv X aa U H s->t U H Q->m_ (l_ X.prog X.w) X.A (eval e X.env) (EP X aa U Q) X.xe s
def PT(X:Cx)(e:L_)(t:TT):Prop:=
 ∀(aa:List (g_×Obj)) (s:c_) (U:St) (H:Hp) (Q:Bool->Hp->Prop),Inv X aa U H s->t U H Q->m_ (l_ X.prog X.w) X.A (WP e X.env (eval e X.env)) (TP X aa U Q) X.xe s
def PW(X:Cx)(e:L_)(t:TT):Prop:=
 ∀(bX:Sem b_) (aa:List (g_×Obj)) (s:c_) (U:St) (H:Hp) (Q:Bool->Hp->Prop),Inv X aa U H s->t U H Q->m_ (l_ X.prog X.w) X.A (WP e X.env bX) (TP X aa U Q) X.xe s
def PA(X:Cx)(es:List L_)(t:TA):Prop:=
 ∀(pos:Pos) (aa:List (g_×Obj)) (s:c_) (U:St) (H:Hp) (Q:List V->Hp->Prop),Inv X aa U H s->t U H Q->m_ (l_ X.prog X.w) X.A (spliced (P_ pos (f_ es X.env))) (AP X aa U Q) X.xe s
def PS(X:Cx)(st:Rm)(t:TS):Prop:=
 ∀(aa:List (g_×Obj)) (s:c_) (U:St) (H:Hp) (D:Ends),Inv X aa U H s->t D U H->m_ (l_ X.prog X.w) X.A (exec st X.env) (SP X aa D) X.xe s
def PSs(X:Cx)(st:List Rm)(t:TS):Prop:=
 ∀(aa:List (g_×Obj)) (s:c_) (U:St) (H:Hp) (D:Ends),Inv X aa U H s->t D U H->m_ (l_ X.prog X.w) X.A (execs st X.env) (SP X aa D) X.xe s
theorem thn{α:Type}{t:Sem α}{Q Q':α->c_->Prop}{M:WB}{E:b_->c_->Prop}{s:c_}(h:m_ M A t Q E s)(hQ:∀a s,Q a s->Q' a s):m_ M A t Q' E s:=Q9 h hQ λ_ _ x=>x
section
variable {X:Cx}
noncomputable def tVar(i:Nat):TE:=λU H Q=>∃v,U[i]?=some (some v)/\Q v H
noncomputable def tC(v:V):TE:=λ_ H Q=>Q v H
theorem No{i:Nat}{x:Str}(hN:X.N[i]?=some x)(hv:Vis X.env.scope x)(hd:(x == ("__debug__":Str))=false:=by decide)(aT:(x == ("__classdict__":Str))=false:=by decide):PE X (.Name x pos) (tVar i):=by
 intro aa s U H Q I h;obtain⟨v,e,h⟩:=h;obtain⟨m,hn,hl⟩:=I.loc;obtain⟨u,r,l⟩:=hl i x v hN e hv;have fin:EP X aa U Q u s:=⟨v,H,I,r,h⟩
 rcases l with⟨hk,hm⟩ | ⟨hk,c,hc,cA⟩
 ·exact WQ (wpAny_loadName_local I.ok.kind hk hn hm fin) hd
 ·rcases hk with hk | hk
  ·exact WQ (wpAny_loadName_cell I.ok.kind hk hc cA fin) hd
  ·exact WQ (wpAny_loadName_free I.ok.kind hk hc cA fin aT) hd
theorem MD{i j pos}:PE X (.Constant (.int i) j pos) (tC (.int i)):=λ_ _ _ H _ I h=>wpAny_Constant_int ⟨.int i,H,I.tok _,⟨_,rfl⟩,h⟩
theorem Hl{b j pos}:PE X (.Constant (.bool b) j pos) (tC (.bl b)):=λ_ _ _ H _ I h=>Constant_bool ⟨.bl b,H,I,rfl,h⟩
theorem ME{j pos}:PE X (.Constant .none j pos) (tC .non):=λ_ _ _ H _ I h=>Constant_none ⟨.non,H,I,rfl,h⟩
theorem NN{x j pos}:PE X (.Constant (.str x) j pos) (tC (.str x)):=λ_ _ _ H _ I h=>V6 ⟨.str x,H,I.tok _,⟨_,rfl⟩,h⟩
def Gl(X:Cx)(x:Str):Prop:=X.env.kindOf x=some .globalImplicit
theorem wE{E:b_->c_->Prop}{s:c_}{U:St}{H:Hp}{x:Str}{u:b_}{Q:b_->c_->Prop}(I:Inv X aa U H s)(hg:Gl X x)(hm:X.mg x=some u)(h:Q u s)(hd:(x == ("__debug__":Str))=false:=by decide):m_ (l_ X.prog X.w) X.A (eval (.Name x pos) X.env) Q E s:=
 Ur I.ok.kind hg (Calls.loadGlobal_global (by rw[I.ok.glob];exact I.mod.glob.keeps I.bk) hm h) hd
theorem v3{E:b_->c_->Prop}{s:c_}{U:St}{H:Hp}{x:Str}{u:b_}{Q:b_->c_->Prop}(I:Inv X aa U H s)(hg:Gl X x)(hm:X.mg x=none)(hv:RU x=some u)(h:Q u s)(hn:x ≠ "__name__":=by decide)(hd:(x == ("__debug__":Str))=false:=by decide):m_ (l_ X.prog X.w) X.A (eval (.Name x pos) X.env) Q E s:=by
 obtain⟨mb,h1,h2⟩:=I.mod.blt;exact Ur I.ok.kind hg (Calls.loadGlobal_builtin (by rw[I.ok.glob];exact I.mod.glob.keeps I.bk) hm (by rw[I.ok.blt];exact h1.keeps I.bk) ((h2 x hn).trans hv) h) hd
theorem MG{x:Str}{v:V}{u:b_}(hg:Gl X x)(hm:X.mg x=some u)(r:RelV v u)(hd:(x == ("__debug__":Str))=false:=by decide):PE X (.Name x pos) (tC v):=
 λ_ _ _ H _ I h=>wE I hg hm ⟨v,H,I,r,h⟩ hd
theorem Ij{x:Str}{v:V}{u:b_}(hg:Gl X x)(hm:X.mg x=none)(hv:RU x=some u)(r:RelV v u)(hn:x ≠ "__name__":=by decide)(hd:(x == ("__debug__":Str))=false:=by decide):PE X (.Name x pos) (tC v):=
 λ_ _ _ H _ I h=>v3 I hg hm hv ⟨v,H,I,r,h⟩ hn hd
variable{a b:L_}{ta tb:TE}
noncomputable def tB(t:TE):TT:=λU H Q=>t U H λx H1=>∃c,x=.bl c/\Q c H1
theorem Np{t:TE}(h:PE X e t)(he:∀bX,WP e X.env bX=(do let v ←bX;WL e.pos;SE [v] (truthy v)):=by intros;rfl):PT X e (tB t):=by
 intro aa s U H Q I hw;refine isTrue_plain (thn (h aa s U H _ I hw) λv s1 ⟨x,H1,I1,r1,q1⟩=>?_) (he _);obtain⟨d,rfl,q⟩:=q1;cases r1;exact Ra ⟨H1,I1,q⟩
variable{tA jA:TT}
noncomputable def tAnd(t u:TT):TT:=λU H Q=>t U H λc H1=>if c=true then u U H1 Q else Q false H1
noncomputable def tOr(t u:TT):TT:=λU H Q=>t U H λc H1=>if c=true then Q true H1 else u U H1 Q
noncomputable def tNot(t:TT):TT:=λU H Q=>t U H λc H1=>Q (!c) H1
theorem K7(ha:PT X a tA):PW X (.BoolOp .And [a] pos) tA:=by
 intro wh aa s U H Q I h;refine isTrue_and (thn (ha aa s U H Q I h) λc s1 e=>?_);cases c with
 | true=>exact isTrue_and_nil e
 | false=>exact e
theorem NG(ha:PT X a tA):PW X (.BoolOp .Or [a] pos) tA:=by
 intro wh aa s U H Q I h;refine isTrue_or (thn (ha aa s U H Q I h) λc s1 e=>?_);cases c with
 | false=>exact isTrue_or_nil e
 | true=>exact e
theorem KR(ha:PT X a tA)(hb:PW X (.BoolOp .And (b::aA) pos) jA):PW X (.BoolOp .And (a::b::aA) pos) (tAnd tA jA):=by
 intro wh aa s U H Q I h;refine isTrue_and (thn (ha aa s U H _ I h) λc s1 ⟨H1,I1,q1⟩=>?_);cases c with
 | true=>exact hb wh aa s1 U H1 Q I1 q1
 | false=>exact⟨H1,I1,q1⟩
theorem Ma(ha:PT X a tA)(hb:PW X (.BoolOp .Or (b::aA) pos) jA):PW X (.BoolOp .Or (a::b::aA) pos) (tOr tA jA):=by
 intro wh aa s U H Q I h;refine isTrue_or (thn (ha aa s U H _ I h) λc s1 ⟨H1,I1,q1⟩=>?_);cases c with
 | true=>exact⟨H1,I1,q1⟩
 | false=>exact hb wh aa s1 U H1 Q I1 q1
theorem MT(ha:PT X a tA):PT X (.UnaryOp .Not a pos) (tNot tA):=by
 intro aa s U H Q I h;exact isTrue_not (ha aa s U H (λc H1=>Q (!c) H1) I h)
noncomputable def tAndV(ta tb:TE):TE:=λU H Q=>ta U H λx H1=>∃c,x=.bl c/\if c=true then tb U H1 Q else Q (.bl false) H1
theorem Mm{op}{t:TE}(h:PE X a t):PE X (.BoolOp op [a] pos) t:=λaa s U H Q I hw=>BoolOp_one (h aa s U H Q I hw)
theorem Jv(ha:PE X a ta)(hb:PE X (.BoolOp .And (b::aA) pos) tb):PE X (.BoolOp .And (a::b::aA) pos) (tAndV ta tb):=by
 intro aa s U H Q I h;refine BoolOp_and (thn (ha aa s U H _ I h) λv s1 ⟨x,H1,I1,r1,q1⟩=>?_);obtain⟨c,rfl,q1⟩:=q1;cases r1;refine Ra ?_;cases c with
 | true=>exact hb aa s1 U H1 Q I1 q1
 | false=>exact⟨.bl false,H1,I1,rfl,q1⟩
noncomputable def tIf(t:TT)(ta tb:TE):TE:=λU H Q=>t U H λc H1=>if c=true then ta U H1 Q else tb U H1 Q
theorem L9{c:L_}(hc:PT X c tA)(ha:PE X a ta)(hb:PE X b tb):PE X (.IfExp c a b pos) (tIf tA ta tb):=by
 intro aa s U H Q I h;refine wpAny_IfExp (thn (hc aa s U H _ I h) λd s1 ⟨H1,I1,q1⟩=>?_);cases d with
 | true=>exact ha aa s1 U H1 Q I1 q1
 | false=>exact hb aa s1 U H1 Q I1 q1
end
def SqL(K:PySem.W.Frag)(H:Hp)(a:g_)(xs:List V):Prop:=
 Rd H a (.lst xs) ∨
  ∃(o:Obj) (ac:Array b_) (n:Nat),K.lookup a=some o/\o.cls=.type "list"/\o.dict=none/\o.data=.seq ac n/\ac.size<=D_/\Vals xs ac.toList
def SqT(K:PySem.W.Frag)(H:Hp)(a:g_)(xs:List V):Prop:=
 Rd H a (.tup xs) ∨
  ∃(o:Obj) (ac:Array b_) (n:Nat),K.lookup a=some o/\o.cls=.type "tuple"/\o.data=.seq ac n/\ac.size<=D_/\Vals xs ac.toList
noncomputable def absV:b_->Option V
 | .none=>some .non
 | .bool b=>some (.bl b)
 | .int i _=>some (.int i)
 | .str x _=>some (.str x)
 | .bytes b _=>some (.byt b)
 | .float b _=>some (.flt b)
 | .ref a=>some (.ref a)
 | .type n=>some (.ty n)
 | _=>none
theorem RelV.abs{x:V}{u:b_}(r:RelV x u):absV u=some x:=by
 cases x with
 | non=>cases r;rfl
 | bl _=>cases r;rfl
 | int _=>obtain⟨t,rfl⟩:=r;rfl
 | str _=>obtain⟨t,rfl⟩:=r;rfl
 | byt _=>obtain⟨t,rfl⟩:=r;rfl
 | flt _=>obtain⟨t,rfl⟩:=r;rfl
 | ref _=>cases r;rfl
 | ty _=>cases r;rfl
theorem RelV.inj{x y:V}{u:b_}(r:RelV x u)(q:RelV y u):x=y:=QX (r.abs.symm.trans q.abs)
theorem Vals.inj:∀{xs ys:List V}{us:List b_},Vals xs us->Vals ys us->xs=ys
 | _,_,_,.nil,.nil=>rfl
 | _,_,_,.cons r t,.cons r' t'=>by rw[r.inj r',Vals.inj t t']
section
variable{X:Cx}{U:St}{H:Hp}{s:c_}{a:g_}{xs ys:List V}
theorem SqL.of{K:PySem.W.Frag}(h:H a=some (.lst xs)):SqL K H a xs:=.inl (.inl h)
theorem SqT.of{K:PySem.W.Frag}(h:H a=some (.tup xs)):SqT K H a xs:=.inl (.inl h)
theorem Inv.list(I:Inv X aa U H s)(h:SqL X.K H a xs):∃ac:List b_,Vals xs ac/\PlainL s.heap a ac.toArray/\xs.length<=D_:=by
 rcases h with h | ⟨o,ac,n,hk,hc,hd,hs,hz,r⟩
 ·obtain⟨z,ac,n,r,e⟩:=h.ok I.hok;exact⟨ac,r,⟨_,n,e,rfl,rfl,rfl⟩,z⟩
 ·refine⟨ac.toList,r,⟨o,n,I.kIn a o hk,hc,hd,by simpa using hs⟩,?_⟩;have e:=r.length;simp only[RD] at e;omega
theorem Inv.tuple(I:Inv X aa U H s)(h:SqT X.K H a xs):∃ac:List b_,Vals xs ac/\WO s.heap a ac.toArray/\xs.length<=D_:=by
 rcases h with h | ⟨o,ac,n,hk,hc,hs,hz,r⟩
 ·obtain⟨z,ac,r,p⟩:=h.ok I.hok;exact⟨ac,r,p,z⟩
 ·refine⟨ac.toList,r,⟨o,I.kIn a o hk,hc,n,by simpa using hs⟩,?_⟩;have e:=r.length;simp only[RD] at e;omega
theorem Inv.list_inj(I:Inv X aa U H s)(h:SqL X.K H a xs)(h':SqL X.K H a ys):xs=ys:=by
 obtain⟨ac,r,⟨o,n,e,_,_,d⟩,_⟩:=I.list h;obtain⟨its',r',⟨o',n',e',_,_,d'⟩,_⟩:=I.list h';rw[e] at e';cases e';rw[d] at d';injection d' with d1 _
 have:ac=its':=by simpa using congrArg toList d1
 subst this;exact r.inj r'
theorem Inv.tuple_inj(I:Inv X aa U H s)(h:SqT X.K H a xs)(h':SqT X.K H a ys):xs=ys:=by
 obtain⟨ac,r,⟨o,e,_,n,d⟩,_⟩:=I.tuple h;obtain⟨its',r',⟨o',e',_,n',d'⟩,_⟩:=I.tuple h';rw[e] at e';cases e';rw[d] at d';injection d' with d1 _
 have:ac=its':=by simpa using congrArg toList d1
 subst this;exact r.inj r'
end
noncomputable abbrev Cx.wish(X:Cx)(E:b_->c_->Prop):Cx:={ X with xe:=E }
noncomputable abbrev Cx.nox(X:Cx):Cx:=X.wish λ_ _=>False
theorem Cx.Ok.wish{X:Cx}(ok:X.Ok)(E:b_->c_->Prop):(X.wish E).Ok:=
 ⟨ok.mod,ok.kind,ok.glob,ok.blt,ok.above,ok.inj,ok.has,ok.cab,ok.hd,ok.frames,ok.stk,ok.exf,ok.bs,ok.bsz,ok.noex,ok.exfs,ok.funs,ok.frf,ok.tb⟩
theorem Cx.Ok.unwish{X:Cx}{E:b_->c_->Prop}(ok:(X.wish E).Ok):X.Ok:=
 ⟨ok.mod,ok.kind,ok.glob,ok.blt,ok.above,ok.inj,ok.has,ok.cab,ok.hd,ok.frames,ok.stk,ok.exf,ok.bs,ok.bsz,ok.noex,ok.exfs,ok.funs,ok.frf,ok.tb⟩
section
variable{X:Cx}{U:St}{H:Hp}{s:c_}{E:b_->c_->Prop}
theorem Inv.wish(I:Inv X aa U H s)(E:b_->c_->Prop):Inv (X.wish E) aa U H s:=⟨I.ok.wish E,I.os,I.bare,I.base,I.loc,I.cell,I.free,I.freeC,I.pin,I.hok,I.len⟩
theorem Inv.unwish(I:Inv (X.wish E) aa U H s):Inv X aa U H s:=⟨I.ok.unwish,I.os,I.bare,I.base,I.loc,I.cell,I.free,I.freeC,I.pin,I.hok,I.len⟩
theorem SP.unwish{D:Ends}{f:Flow}(h:SP (X.wish E) aa D f s'):SP X aa D f s':=by
 cases f with
 | next=>obtain⟨ai,H',I,q⟩:=h;exact⟨ai,H',I.unwish,q⟩
 | brk=>obtain⟨ai,H',I,q⟩:=h;exact⟨ai,H',I.unwish,q⟩
 | cont=>obtain⟨ai,H',I,q⟩:=h;exact⟨ai,H',I.unwish,q⟩
 | ret u=>obtain⟨v,ai,H',I,r,q⟩:=h;exact⟨v,ai,H',I.unwish,r,q⟩
theorem PE.nox{t:TE}(h:PE X.nox e t):PE X e t:=λaa s U H Q I hw =>
 Q9 (h aa s U H Q (I.wish _) hw) (λ_ _ ⟨v,H',I',r,q⟩=>⟨v,H',I'.unwish,r,q⟩) λ_ _ z=>W9 z
theorem PSs.nox{st:List Rm}{t:TS}(h:PSs X.nox st t):PSs X st t:=λaa s U H D I hw =>
 Q9 (h aa s U H D (I.wish _) hw) (λ_ _ q=>q.unwish) λ_ _ z=>W9 z
end
section
variable{X:Cx}{st:Rm}{aA:List Rm}{t u:TS}{te:TE}
noncomputable def tNext:TS:=λD U H=>D.nx U H
noncomputable def tSeq(t u:TS):TS:=λD U H=>t { D with nx:=u D } U H
theorem LA:PSs X [] tNext:=λ_ _ U H _ I h=>SZ ⟨U,H,I,h⟩
theorem zx(h1:PS X st t)(h2:PSs X aA u):PSs X (st::aA) (tSeq t u):=by
 intro aa s U H D I h;refine wpAny_execs_cons (thn (h1 aa s U H { D with nx:=u D } I h) λf s1 q=>?_);cases f with
 | next =>
  obtain⟨ai,H',I',q⟩:=q;exact h2 aa s1 ai H' D I' q
 | ret v=>exact q
 | brk=>exact q
 | cont=>exact q
theorem B5(h1:PS X st t):PSs X [st] t:=by
 intro aa s U H D I h;refine wpAny_execs_cons (thn (h1 aa s U H D I h) λf s1 q=>?_);cases f with
 | next=>exact SZ q
 | ret v=>exact q
 | brk=>exact q
 | cont=>exact q
theorem Inv.quiet{U:St}{H:Hp}{s:c_}(I:Inv X aa U H s):interactive X.env=false:=by simp[interactive,I.ok.kind]
noncomputable def tDrop(te:TE):TS:=λD U H=>te U H λ_ H1=>D.nx U H1
theorem ym(he:PE X e te)(hs:RM e none pos.line X.env=pure false:=by rfl):PS X (.Expr e pos) (tDrop te):=by
 intro aa s U H D I h;exact wpAny_Expr_any (thn (he aa s U H _ I h) λv s1 ⟨x,H1,I1,r1,q1⟩=>⟨U,H1,I1,q1⟩) I.quiet hs
noncomputable def tRet(te:TE):TS:=λD U H=>te U H D.rt
theorem zX(he:PE X e te):PS X (.Return (some e) pos) (tRet te):=by
 intro aa s U H D I h;exact wpAny_Return_some (thn (he aa s U H _ I h) λv s1 ⟨x,H1,I1,r1,q1⟩=>⟨x,U,H1,I1,r1,q1⟩)
noncomputable def tIfS(c:TT)(t u:TS):TS:=λD U H=>c U H λb H1=>if b=true then t D U H1 else u D U H1
theorem EU{c:L_}{a b:List Rm}{tc:TT}(hc:PT X c tc)(ha:PSs X a t)(hb:PSs X b u):PS X (.If c a b pos) (tIfS tc t u):=by
 intro aa s U H D I h;refine wpAny_If (thn (hc aa s U H _ I h) λd s1 ⟨H1,I1,q1⟩=>?_);cases d with
 | true=>exact ha aa s1 U H1 D I1 q1
 | false=>exact hb aa s1 U H1 D I1 q1
noncomputable def tNever:TS:=λ_ _ _=>False
theorem Iv:PS X st tNever:=λ_ _ _ _ _ _ h=>h.elim
end
abbrev TG:=V->St->Hp->(St->Hp->Prop)->Prop
abbrev TGs:=List V->St->Hp->(St->Hp->Prop)->Prop
def PG(X:Cx)(jB:L_)(t:TG):Prop:=
 ∀(aa:List (g_×Obj)) (s:c_) (U:St) (H:Hp) (v:V) (u:b_) (Q:St->Hp->Prop),Inv X aa U H s->RelV v u->t v U H Q →
  m_ (l_ X.prog X.w) X.A (Us jB X.env u) (λ_ s'=>∃ai H',Inv X aa ai H' s'/\Q ai H') X.xe s
def PGs(X:Cx)(ts:List L_)(t:TGs):Prop:=
 ∀(aa:List (g_×Obj)) (s:c_) (U:St) (H:Hp) (vs:List V) (us:List b_) (Q:St->Hp->Prop),Inv X aa U H s->Vals vs us->t vs U H Q →
  m_ (l_ X.prog X.w) X.A (assignInOrder ((RX ts X.env).map (·.2)) us) (λ_ s'=>∃ai H',Inv X aa ai H' s'/\Q ai H') X.xe s
abbrev TSet:=V->V->V->Hp->(Hp->Prop)->Prop
def PSet(X:Cx)(t:TSet):Prop:=
 ∀(aa:List (g_×Obj)) (s:c_) (U:St) (H:Hp) (o i v:V) (ov iv u:b_) (Q:Hp->Prop),Inv X aa U H s->RelV o ov->RelV i iv->RelV v u->t o i v H Q →
  m_ (l_ X.prog X.w) X.A (setItem ov iv u) (λ_ s'=>∃H',Inv X aa U H' s'/\Q H') X.xe s
section
variable{X:Cx}
noncomputable def gName(i:Nat):TG:=λv U H Q=>Q (U.set i (some v)) H
theorem Mv{i:Nat}{x:Str}(hN:X.N.Nodup)(hi:X.N[i]?=some x)(hx:Loc X.env.scope x)(hf:X.fn x=true\/X.env.scope.names.lookup x=some .local):PG X (.Name x pos) (gName i):=by
 intro aa s U H v u Q I r h;exact We (CL I hN hi hx r (λs' I'=>⟨_,H,I',h⟩) hf)
noncomputable def gNil:TGs:=λvs U H Q=>vs=[]/\Q U H
noncomputable def gCons(t:TG)(u:TGs):TGs:=λvs U H Q=>∃v r,vs=v::r/\t v U H λai H'=>u r ai H' Q
theorem KZ:PGs X [] gNil:=by
 intro aa s U H vs us Q I r h;obtain⟨e,h⟩:=h;subst e;cases r;exact assignInOrder_nil ⟨U,H,I,h⟩
theorem MC{es:List L_}{t:TG}{u:TGs}(h1:PG X e t)(h2:PGs X es u)(hs:(RX (e::es) X.env).map (·.2)=Us e X.env::(RX es X.env).map (·.2):=by rfl):PGs X (e::es) (gCons t u):=by
 intro aa s U H vs us Q I r h;obtain⟨v,vr,e1,h⟩:=h;subst e1;cases r with
 | cons r rr =>
  rw[hs];refine assignInOrder_cons (thn (h1 aa s U H _ _ _ I r h) λ_ s1 ⟨cB,H1,I1,q1⟩=>?_);exact h2 aa s1 cB H1 _ _ Q I1 rr q1
noncomputable def gTup(K:PySem.W.Frag)(n:Nat)(t:TGs):TG:=λv U H Q=>∃a xs,v=.ref a/\SqT K H a xs/\xs.length=n/\t xs U H Q
theorem Lh{es:List L_}{k:Nat}{t:TGs}(hc:X.calm=true)(h:PGs X es t)(hn:(RX es X.env).length=n:=by rfl)(fF:(RX es X.env).findIdx? (·.1)=none:=by rfl):PG X (.Tuple es k pos) (gTup X.K n t):=by
 intro aa s U H v u Q I r hw;obtain⟨a,xs,e1,hq,hl,hw⟩:=hw;subst e1;cases r;obtain⟨ac,rv,ht,hz⟩:=I.tuple hq;refine assign_Tuple_tuple (I.ok.hd hc) ht (by simp[hn,←hl,rv.length]) fF λh' hx=>?_
 have I1:Inv X aa U H { s with heap:=h' }:=I.kept (t':=s.toks) λb o e=>hx b o (H_ (w_ e)) e
 exact h aa _ U H xs _ Q I1 (by simpa using rv) hw
noncomputable def gSub(to ti:TE)(t:TSet):TG:=λv U H Q=>to U H λo H1=>ti U H1 λi H2=>t o i v H2 λH3=>Q U H3
theorem O1{o i:L_}{to ti:TE}{t:TSet}(ho:PE X o to)(hi:PE X i ti)(hs:PSet X t)(ha:∀v,Us (.Subscript o i pos) X.env v=(do
   let ov ←SE [v] (eval o X.env)
   let iv ←SE [v,ov] (eval i X.env)
   WL pos
   SE [v,ov,iv] (setItem ov iv v)
   release [v,ov,iv] []):=by intros;rfl):PG X (.Subscript o i pos) (gSub to ti t):=by
 intro aa s U H v u Q I r h;rw[ha];refine a_ (F_ (thn (ho aa s U H _ I h) λov s1 ⟨x,H1,I1,r1,q1⟩=>?_));refine a_ (F_ (thn (hi aa s1 U H1 _ I1 q1) λiv s2 ⟨y,H2,I2,r2,q2⟩=>?_));refine a_ (VZ (a_ (F_ (thn (hs aa s2 U H2 x y v ov iv u _ I2 r1 r2 r q2) λ_ s3 ⟨H3,I3,q3⟩=>?_))));exact wpAny_release ⟨U,H3,I3,q3⟩
noncomputable def tAsg(te:TE)(g:TG):TS:=λD U H=>te U H λx H1=>g x U H1 D.nx
theorem F6{te:TE}{g:TG}(he:PE X e te)(hg:PG X tg g)(hs:V0 [tg] e pos.line X.env=pure false:=by rfl)(hw:V1 [tg] e X.env=pure none:=by rfl)(h1:(RX [tg] X.env).map (·.2)=[Us tg X.env]:=by rfl):PS X (.Assign [tg] e pos) (tAsg te g):=by
 intro aa s U H D I h;refine wpAny_Assign_stores (thn (he aa s U H _ I h) λv s1 ⟨x,H1,I1,r1,q1⟩=>?_) hs hw;rw[h1];exact thn (hg aa s1 U H1 x v _ I1 r1 q1) λ_ s2 q=>q
theorem yH{i:Nat}{x:Str}{te:TE}(hN:X.N.Nodup)(hi:X.N[i]?=some x)(hx:Loc X.env.scope x)(he:PE X e te)(hs:RM e (some (.Name x aC)) pos.line X.env=pure false:=by rfl)(hf:X.fn x=true\/X.env.scope.names.lookup x=some .local):
  PS X (.Assign [.Name x aC] e pos) (tAsg te (gName i)):=by
 intro aa s U H D I h;refine wpAny_Assign_Name (thn (he aa s U H _ I h) λv s1 ⟨y,H1,I1,r1,q1⟩=>?_) hs;exact CL I1 hN hi hx r1 (λs2 I2=>⟨_,H1,I2,q1⟩) hf
end
section
variable{X:Cx}
noncomputable def tWhile(c:TT)(tb:TS):TS:=λD U H=>∃W:Nat->St->Hp->Prop,(∃m,W m U H)/\∀m U H,W m U H →
 c U H λb H1=>if b=true then ∃N:St->Hp->Prop,(∀ai H',N ai H'->∃m',m' < m/\W m' ai H')/\tb { D with nx:=N,ct:=N,bk:=D.nx } U H1 else D.nx U H1
theorem Ic{c:L_}{tc:TT}{tb:TS}(hp:Um (l_ X.prog X.w) X.A X.env X.xe)(hc:PT X c tc)(hb:PSs X body tb):PS X (.While c body [] pos) (tWhile tc tb):=by
 intro aa s U H D I h;obtain⟨W,⟨m0,w0⟩,turn⟩:=h;refine wpAny_While (codeAny_whileLoop (λn s'=>∃ai H',Inv X aa ai H' s'/\W n ai H') ?_ m0 ⟨U,H,I,w0⟩);rintro n s1 ⟨cB,H1,I1,w1⟩;refine R0 hp (thn (hc aa s1 cB H1 _ I1 (turn n cB H1 w1)) λb s2 ⟨H2,I2,q2⟩=>?_);cases b with
 | true =>
  obtain⟨N,hN,q2⟩:=q2;rw[if_pos rfl];refine R0 hp (thn (hb aa s2 cB H2 _ I2 q2) λf s3 q3=>?_);cases f with
  | next =>
   obtain⟨dD,H3,I3,n3⟩:=q3;obtain⟨m',hm,w3⟩:=hN dD H3 n3;exact⟨m',hm,dD,H3,I3,w3⟩
  | cont =>
   obtain⟨dD,H3,I3,n3⟩:=q3;obtain⟨m',hm,w3⟩:=hN dD H3 n3;exact⟨m',hm,dD,H3,I3,w3⟩
  | brk=>exact q3
  | ret v=>exact q3
 | false =>
  rw[if_neg i_];exact SZ ⟨cB,H2,I2,q2⟩
end
structure It where
 go:Nat->Hp->Prop
 yld:Nat->Hp->V->Hp->Prop
 stop:Nat->Hp->Prop
def FpOk(X:Cx)(aa:List (g_×Obj))(H:Hp)(b:g_):Prop:=
 H b=none/\b≠X.env.locals/\b∉X.fs/\(b∈X.ex\/X.s₀.heap.objs.size<=b)/\(∀x c,X.env.cells.lookup x=some c->c≠b)/\∀p∈X.pn++aa,p.1≠b
theorem Inv.fpOk{X:Cx}{U:St}{H H':Hp}{s:c_}{b:g_}(I:Inv X aa U H s)(hb:s.heap.objs.size<=b)(hn:H' b=none):FpOk X aa H' b:=by
 refine⟨hn,Tg (G_ I.lt hb),I.nofs hb,.inr (z_ I.sz hb),λx c e z=>?_,λp hp z=>?_⟩
 ·obtain⟨v,q⟩:=I.cell x c e;exact absurd (G_ q.lt (by rw[z];exact hb)) (RZ _)
 ·exact absurd (G_ (w_ (I.pin p hp).1) (by rw[z];exact hb)) (RZ _)
structure Turn(P:u_)(w:C_)(K:PySem.W.Frag)(tg:L_)(J:It)(fp:List g_)(it:g_)(tn:Nat->K_->Prop):Prop where
 mem:it∈fp
 obj:∀i h,tn i h->∀b∈fp,∃o,h.get? b=some o/\∀v,o.data≠.cell v
 keep:∀i h h',tn i h->(∀b∈fp,∀o,h.get? b=some o->h'.get? b=some o)->tn i h'
 item:∀(X:Cx),X.prog=P->X.w=w->X.K=K->X.calm=true->∀(i:Nat) (aa:List (g_×Obj)) (s:c_) (U:St) (H:Hp) (E:b_->c_->Prop),Inv X aa U H s->(∀b∈fp,FpOk X aa H b)->tn i s.heap->J.go i H →
  m_ (l_ P w) X.A (Sm (.ref it)) (λr s1=>∃u,r=some u ∧
   m_ (l_ P w) X.A (T7 tg (.ref it) u) (λ_ s2=>∃x H',Inv X aa U H' s2/\RelV x u/\J.yld i H x H'/\tn (i+1) s2.heap/\∀b∈fp,H' b=none) E s1) E s
 done:∀(X:Cx),X.prog=P->X.w=w->X.K=K->X.calm=true->∀(i:Nat) (aa:List (g_×Obj)) (s:c_) (U:St) (H:Hp) (E:b_->c_->Prop),Inv X aa U H s->(∀b∈fp,FpOk X aa H b)->tn i s.heap->J.stop i H →
  m_ (l_ P w) X.A (Sm (.ref it)) (λr s1=>r=none/\Inv X aa U H s1) E s
 self:∀(A:Rh) (i:Nat) (s:c_) (Q:b_->c_->Prop) (E:b_->c_->Prop),tn i s.heap->Q (.ref it) s->m_ (l_ P w) A (V7 (.ref it)) Q E s
abbrev TI:=St->Hp->(It->Hp->Prop)->Prop
def PIE(X:Cx)(aa:List (g_×Obj))(U:St)(tg:L_)(R:It->Hp->Prop)(jC:b_)(s2:c_):Prop:=
 ∃(it:g_) (fp:List g_) (tn:Nat->K_->Prop) (J:It) (H':Hp),jC=.ref it/\Inv X aa U H' s2/\Turn X.prog X.w X.K tg J fp it tn/\tn 0 s2.heap/\(∀b∈fp,FpOk X aa H' b)/\R J H'
def PI(X:Cx)(tg iter:L_)(wi:TI):Prop:=
 ∀(aa:List (g_×Obj)) (s:c_) (U:St) (H:Hp) (R:It->Hp->Prop),Inv X aa U H s->wi U H R →
  m_ (l_ X.prog X.w) X.A (eval iter X.env) (λv s1=>m_ (l_ X.prog X.w) X.A (V7 v) (PIE X aa U tg R) X.xe s1) X.xe s
theorem A8{M:WB}{E:b_->c_->Prop}{s:c_}{it:g_}{u:b_}{o:Obj}{n:String}{vs:Array b_}{Q:Unit->c_->Prop}(ho:s.heap.get? it=some o)(hc:o.cls=.type n)(hd:o.data=.fields vs)(hn:["enumerate", "zip", "dict_itemiterator", "dict_reverseitemiterator", "odict_iterator", "itertools.zip_longest", "itertools.pairwise"].contains n=false)(hQ:Q () s):m_ M A (T7 tg (.ref it) u) Q E s:=by
 unfold T7
 cases tg<;>first
  | exact d_ hQ
  | (cases u<;>first
    | exact d_ hQ
    | (refine a_ (wpAny_load ho ?_)
       rw[hc,hd];show m_ M A (if(["enumerate", "zip", "dict_itemiterator", "dict_reverseitemiterator", "odict_iterator", "itertools.zip_longest", "itertools.pairwise"].contains n&&vs[0]? == some (R9 _))=true then _ else _) Q E s;rw[if_neg (by intro h;rw[hn,Vv] at h;cases h)]
       exact d_ hQ))
noncomputable def Itl(K:PySem.W.Frag)(a:g_):It:=
 ⟨λi H=>∃xs x,SqL K H a xs/\xs[i]?=some x,λi H x H'=>H'=H/\∀xs,SqL K H a xs->xs[i]?=some x,λi H=>∃xs,SqL K H a xs/\xs.length<=i⟩
noncomputable def Itt(K:PySem.W.Frag)(a:g_):It:=
 ⟨λi H=>∃xs x,SqT K H a xs/\xs[i]?=some x,λi H x H'=>H'=H/\∀xs,SqT K H a xs->xs[i]?=some x,λi H=>∃xs,SqT K H a xs/\xs.length<=i⟩
noncomputable def Itr(lo:Int)(n:Nat):It:=⟨λi _=>i < n,λi H x H'=>H'=H/\x=.int (lo+i),λi _=>n<=i⟩
theorem Jb{P:u_}{w:C_}{K:PySem.W.Frag}(a it:g_):Turn P w K tg (Itl K a) [it] it (λi h=>h.IsListIter it a i) where
 mem:=by simp
 obj:=λi h st b hb=>by
  have e:b=it:=by simpa using hb
  subst e;obtain⟨o,e,c,d⟩:=st;exact⟨o,e,λv z=>by rw[d] at z;cases z⟩
 keep:=λi h h' st k=>st.at λo e=>k it (by simp) o e
 item:=by
  intro X hP hw hK hc i aa s U H E I hf st hg;subst hP hw hK;obtain⟨xs,x,hq,hx⟩:=hg;obtain⟨ac,rv,p,hz⟩:=I.list hq;obtain⟨u,hu,ru⟩:=rv.get hx;obtain⟨f0,f1,f2,f3,f4,f5⟩:=hf it (by simp);refine wpAny_pyNext_list_item st p.isList (x:=u) (by simpa using hu) λh' eZ sb=>?_
  have I1:Inv X aa U H { s with heap:=h' }:=I.turned (t':=s.toks) (λb o hb e=>(sb.2 b hb).trans e) f0 f1 f3 f4 f5;obtain⟨o,e,c,d⟩:=id eZ;exact⟨u,rfl,A8 (s:={ s with heap:=h' }) e c d (by decide) ⟨x,H,I1,ru,⟨rfl,λys hy=>by rw[I.list_inj hy hq];exact hx⟩,eZ,λb hb=>(hf b hb).1⟩⟩
 done:=by
  intro X hP hw hK hc i aa s U H E I hf st hg;subst hP hw hK;obtain⟨xs,hq,hx⟩:=hg;obtain⟨ac,rv,p,hz⟩:=I.list hq;obtain⟨f0,f1,f2,f3,f4,f5⟩:=hf it (by simp);have hl:=rv.length;exact wpAny_pyNext_list_end (I.ok.hd hc) st p.isList (by simp;omega) λh' eb=>⟨rfl,I.turned (t':=s.toks) (λb o hb e=>eb b o hb e) f0 f1 f3 f4 f5⟩
 self:=λ_ _ _ _ _ st h=>wpAny_pyIter_listiter st h
theorem NM{P:u_}{w:C_}{K:PySem.W.Frag}(a it:g_):Turn P w K tg (Itt K a) [it] it (λi h=>h.IsTupleIter it a i) where
 mem:=by simp
 obj:=λi h st b hb=>by
  have e:b=it:=by simpa using hb
  subst e;obtain⟨o,e,c,d⟩:=st;exact⟨o,e,λv z=>by rw[d] at z;cases z⟩
 keep:=λi h h' st k=>st.at λo e=>k it (by simp) o e
 item:=by
  intro X hP hw hK hc i aa s U H E I hf st hg;subst hP hw hK;obtain⟨xs,x,hq,hx⟩:=hg;obtain⟨ac,rv,p,hz⟩:=I.tuple hq;obtain⟨u,hu,ru⟩:=rv.get hx;obtain⟨f0,f1,f2,f3,f4,f5⟩:=hf it (by simp);refine wpAny_pyNext_tuple_item st (show s.heap.IsTuple a ac.toArray from p) (x:=u) (by simpa using hu) λh' eZ sb=>?_
  have I1:Inv X aa U H { s with heap:=h' }:=I.turned (t':=s.toks) (λb o hb e=>(sb.2 b hb).trans e) f0 f1 f3 f4 f5;obtain⟨o,e,c,d⟩:=id eZ;exact⟨u,rfl,A8 (s:={ s with heap:=h' }) e c d (by decide) ⟨x,H,I1,ru,⟨rfl,λys hy=>by rw[I.tuple_inj hy hq];exact hx⟩,eZ,λb hb=>(hf b hb).1⟩⟩
 done:=by
  intro X hP hw hK hc i aa s U H E I hf st hg;subst hP hw hK;obtain⟨xs,hq,hx⟩:=hg;obtain⟨ac,rv,p,hz⟩:=I.tuple hq;obtain⟨f0,f1,f2,f3,f4,f5⟩:=hf it (by simp);have hl:=rv.length;exact wpAny_pyNext_tuple_end (I.ok.hd hc) st (show s.heap.IsTuple a ac.toArray from p) (by simp;omega) λh' eb=>⟨rfl,I.turned (t':=s.toks) (λb o hb e=>eb b o hb e) f0 f1 f3 f4 f5⟩
 self:=λ_ _ _ _ _ st h=>wpAny_pyIter_tupleiter st h
theorem Nh{P:u_}{w:C_}{K:PySem.W.Frag}(it:g_)(lo:Int)(n:Nat):Turn P w K tg (Itr lo n) [it] it (λi h=>IsRangeIter h it (lo+(i:Nat)*1) ((n:Int) - (i:Nat)) 1) where
 mem:=by simp
 obj:=λi h st b hb=>by
  have e:b=it:=by simpa using hb
  subst e
  exact⟨_,st,λv z=>by
   have z':fields _=VR v:=z
   cases z'⟩
 keep:=λi h h' st k=>k it (by simp) _ st
 item:=by
  intro X hP hw hK hc i aa s U H E I hf st hg;subst hP hw hK;obtain⟨f0,f1,f2,f3,f4,f5⟩:=hf it (by simp);have W:=UV.range (prog:=X.prog) (w:=X.w) (I.ok.hd hc) it lo 1 n;refine W.item i s _ _ hg st λv h' tk hv eZ kk=>?_
  obtain⟨t,rfl⟩:=hv;have I1:Inv X aa U H { s with heap:=h',toks:=tk }:=I.turned (λb o hb e=>kk b o (by simpa using hb) e) f0 f1 f3 f4 f5;refine⟨_,rfl,A8 (s:={ s with heap:=h',toks:=tk }) (n:= "range_iterator") eZ rfl rfl (by decide) ⟨.int (lo+i),H,I1,⟨t,?_⟩,⟨rfl,rfl⟩,eZ,λb hb=>(hf b hb).1⟩⟩;rw[Int.mul_one]
 done:=by
  intro X hP hw hK hc i aa s U H E I hf st hg;subst hP hw hK;obtain⟨f0,f1,f2,f3,f4,f5⟩:=hf it (by simp);exact wpAny_pyNext_range_end (I.ok.hd hc) st (by have:n<=i:=hg;omega) λh' eb=>⟨rfl,I.turned (t':=s.toks) (λb o hb e=>eb b o hb e) f0 f1 f3 f4 f5⟩
 self:=λ_ _ _ _ _ st h=>wpAny_pyIter_rangeiter st h
section
variable{X:Cx}
theorem Kr{U:St}{H:Hp}{s:c_}{R:It->Hp->Prop}{E:b_->c_->Prop}{lo hi:Int}{t u v:Tok}(I:Inv X aa U H s)(h1:-(2 ^ 62)<=lo)(h2:lo < 2 ^ 62)(h3:-(2 ^ 62)<=hi)(h4:hi < 2 ^ 62)(q:R (Itr lo (hi - lo).toNat) H):m_ (l_ X.prog X.w) X.A (V7 (.ref s.heap.objs.size)) (PIE X aa U tg R) E { s with heap:=s.heap.push { cls:=.type "range", data:=.fields #[.int lo t,.int hi u,.int 1 v] },toks:=tk }:=by
 refine wpAny_pyIter_range (IsRange.new ..) (small_one h1 h2 h3 h4) ?_;have I1:Inv X aa U H { s with heap:=s.heap.push { cls:=.type "range", data:=.fields #[.int lo t,.int hi u,.int 1 v] },toks:=tk }:=I.kept λb o e=>e_ _ e
 refine⟨(s.heap.push { cls:=.type "range", data:=.fields #[.int lo t,.int hi u,.int 1 v] }).objs.size,[(s.heap.push { cls:=.type "range", data:=.fields #[.int lo t,.int hi u,.int 1 v] }).objs.size],_,_,H,rfl,
  I1.kept (t':=tk) λb o e=>e_ _ e,Nh _ lo (hi - lo).toNat,?_,λb hb=>?_,q⟩
 ·have e1:lo+((0:Nat):Int)*1=lo:=by simp
  have e2:(((hi - lo).toNat:Nat):Int) - ((0:Nat):Int)=rangeSize lo hi 1:=by rw[rangeSize_one];split<;>omega
  show IsRangeIter _ _ (lo+((0:Nat):Int)*1) ((((hi - lo).toNat:Nat):Int) - ((0:Nat):Int)) 1;rw[e1,e2];exact r_ _ rfl
 ·have e:b=(s.heap.push { cls:=.type "range", data:=.fields #[.int lo t,.int hi u,.int 1 v] }).objs.size:=by simpa using hb
  subst e;exact I1.fpOk (x_ _) (I1.hok.fresh (x_ _))
noncomputable def iRng1(ta:TA):TI:=λU H R=>ta U H λvs H1=>∃j:Int,vs=[.int j]/\-(2 ^ 62)<=j/\j < 2 ^ 62/\R (Itr 0 j.toNat) H1
theorem N4{a:L_}{ta:TA}{p:Pos}(hg:Gl X "range")(hm:X.mg "range"=none)(ha:PA X [a] ta)(hs:f_ [a] X.env=[(false,eval a X.env)]:=by rfl):PI X tg (.Call (.Name "range" p) [a] [] pos) (iRng1 ta):=by
 intro aa s U H R I h;refine Call_ (v3 I hg hm boot_range (Rb (thn (ha pos aa s U H _ I h) λus s1 ⟨vs,H1,I1,r1,q1⟩=>?_) hs rfl));obtain⟨j,e,q1,q2,q⟩:=q1;subst e;cases r1 with
 | cons r rr =>
  cases rr;obtain⟨t,rfl⟩:=r;exact call_range_1 (Kr I1 (by omega) (by omega) q1 q2 (by simpa using q))
noncomputable def tFor(wi:TI)(g:TG)(tb:TS):TS:=λD U H=>wi U H λJ H1=>∃W:Nat->Nat->St->Hp->Prop,(∃m,W 0 m U H1)/\∀i m U H,W i m U H →
 (J.stop i H/\D.nx U H)\/(J.go i H/\∃N:St->Hp->Prop,(∀ai H',N ai H'->∃m',m' < m/\W (i+1) m' ai H')/\∀x H',J.yld i H x H'->g x U H' λaQ H2=>tb { D with nx:=N,ct:=N,bk:=D.nx } aQ H2)
noncomputable def pinsAt(fp:List g_)(h:K_):List (g_×Obj):=fp.filterMap λb=>(h.get? b).map λo=>(b,o)
theorem Ap{b:g_}{o:Obj}(hb:b∈fp)(e:h.get? b=some o):(b,o)∈pinsAt fp h:=SU.mpr ⟨b,hb,by rw[e];rfl⟩
theorem KQ{p:g_×Obj}(hp:p∈pinsAt fp h):p.1∈fp/\h.get? p.1=some p.2:=by
 obtain⟨b,hb,e⟩:=SU.mp hp;cases q:h.get? b with
 | none=>rw[q] at e;cases e
 | some o =>
  rw[q] at e;have e':(b,o)=p:=QX e;subst e';exact⟨hb,q⟩
theorem Inv.pinned{U:St}{H:Hp}{s:c_}(I:Inv X aa U H s)(hf:∀b∈fp,FpOk X aa H b)(ho:∀b∈fp,∃o,s.heap.get? b=some o/\∀v,o.data≠.cell v):Inv X (aa++pinsAt fp s.heap) U H s:=
 I.pins_of λp hp=>(Q8.mp hp).elim (λz=>I.pin p (Q1 _ z)) λz=>by
  obtain⟨hb,e⟩:=KQ z;obtain⟨f0,f1,f2,_⟩:=hf p.1 hb;obtain⟨o,e',d⟩:=ho p.1 hb;rw[e] at e';cases e';exact⟨e,f0,f1,f2,d⟩
theorem Inv.unpinned{pl:List (g_×Obj)}{U:St}{H:Hp}{s:c_}(I:Inv X (aa++pl) U H s):Inv X aa U H s:=I.pins_of λp hp=>I.pin p (Q1 _ (Rl _ hp))
theorem Ek{iter:L_}{wi:TI}{g:TG}{tb:TS}(hp:Um (l_ X.prog X.w) X.A X.env X.xe)(hc:X.calm=true)(hi:PI X tg iter wi)(hg:PG X tg g)(hb:PSs X body tb)(hs:∀x,Ry iter X.env x=pure x:=by intros;rfl):PS X (.For tg iter body [] pos) (tFor wi g tb):=by
 intro aa s U H D I h;refine wpAny_For (thn (hi aa s U H _ I h) λv s1 h1=>thn h1 λjC s2 h2=>?_) hs;obtain⟨it,fp,tn,J,H2,e,I2,T,fb,f2,W,⟨m0,w0⟩,turn⟩:=h2;subst e
 -- what stays true of the iterator's objects through the aM
 have dE:∀{H':Hp},(∀b∈fp,H' b=none)->∀b∈fp,FpOk X aa H' b:=λhn b hb=>⟨hn b hb,(f2 b hb).2⟩
 refine codeAny_forLoop_any (λn s'=>∃i ai H',Inv X aa ai H' s'/\tn i s'.heap/\(∀b∈fp,H' b=none)/\W i n ai H') ?_ m0 ⟨0,U,H2,I2,fb,λb hb=>(f2 b hb).1,w0⟩;rintro n s3 ⟨i,dD,H3,I3,gP,nG,w3⟩
 rcases turn i n dD H3 w3 with⟨stop,qn⟩ | ⟨go,N,hN,step⟩
 ·refine R0 hp (thn (T.done X rfl rfl rfl hc i aa s3 dD H3 X.xe I3 (dE nG) gP stop) λr s4 ⟨hr,I4⟩=>?_);subst hr;exact SZ ⟨dD,H3,I4,qn⟩
 ·refine R0 hp (thn (T.item X rfl rfl rfl hc i aa s3 dD H3 X.xe I3 (dE nG) gP go) λr s4 ⟨u,hr,h4⟩=>?_);subst hr;refine R0 hp (thn h4 λ_ s5 ⟨x,H5,I5,r5,y5,gQ,jD⟩=>?_);have qk:=I5.pinned (dE jD) (T.obj _ _ gQ);refine R0 hp (thn (hg _ s5 dD H5 x u _ qk r5 (step x H5 y5)) λ_ s6 ⟨ql,H6,I6,q6⟩=>?_);refine R0 hp (thn (hb _ s6 ql H6 _ I6 q6) λf s7 q7=>?_)
  have WC:∀{dF:St}{H7:Hp},Inv X (aa++pinsAt fp s5.heap) dF H7 s7->N dF H7->∃m,m < n/\∃i ai H',Inv X aa ai H' s7/\tn i s7.heap/\(∀b∈fp,H' b=none)/\W i m ai H':=λ{dF H7} I7 n7=>by
   obtain⟨m',hm,w7⟩:=hN dF H7 n7;refine⟨m',hm,i+1,dF,H7,I7.unpinned,T.keep _ _ _ gQ λb hb o e=>(I7.pin (b,o) (Q1 _ (Q1 _ (Ap hb e)))).1,λb hb=>?_,w7⟩;obtain⟨o,e,d⟩:=T.obj _ _ gQ b hb;exact(I7.pin (b,o) (Q1 _ (Q1 _ (Ap hb e)))).2.1
  cases f with
  | next=>obtain⟨dF,H7,I7,n7⟩:=q7;exact WC I7 n7
  | cont=>obtain⟨dF,H7,I7,n7⟩:=q7;exact WC I7 n7
  | brk=>obtain⟨dF,H7,I7,q7⟩:=q7;exact⟨dF,H7,I7.unpinned,q7⟩
  | ret v=>obtain⟨x7,dF,H7,I7,r7,q7⟩:=q7;exact⟨x7,dF,H7,I7.unpinned,r7,q7⟩
end
abbrev R2:=V->V->Hp->VK->Prop
def OpR(X:Cx)(f:b_->b_->Sem b_)(r:R2):Prop:=
 ∀(aa:List (g_×Obj)) (s:c_) (U:St) (H:Hp) (x y:V) (v u:b_) (Q:VK),Inv X aa U H s->RelV x v->RelV y u->r x y H Q →
  m_ (l_ X.prog X.w) X.A (f v u) (EP X aa U Q) X.xe s
def UnR(X:Cx)(f:b_->Sem b_)(r:V->Hp->VK->Prop):Prop:=
 ∀(aa:List (g_×Obj)) (s:c_) (U:St) (H:Hp) (x:V) (v:b_) (Q:VK),Inv X aa U H s->RelV x v->r x H Q →
  m_ (l_ X.prog X.w) X.A (f v) (EP X aa U Q) X.xe s
def CallR(X:Cx)(f:b_)(r:List V->Hp->VK->Prop):Prop:=
 ∀(aa:List (g_×Obj)) (s:c_) (U:St) (H:Hp) (xs:List V) (us:List b_) (Q:VK),Inv X aa U H s->Vals xs us->r xs H Q →
  m_ (l_ X.prog X.w) X.A (call f us) (EP X aa U Q) X.xe s
noncomputable def tOp(r:R2)(ta tb:TE):TE:=λU H Q=>ta U H λx H1=>tb U H1 λy H2=>r x y H2 Q
noncomputable def tUn(r:V->Hp->VK->Prop)(ta:TE):TE:=λU H Q=>ta U H λx H1=>r x H1 Q
noncomputable def rI(C:Int->Int->Prop)(g:Int->Int->V):R2:=λx y H Q=>∃i j,x=.int i/\y=.int j/\C i j/\Q (g i j) H
noncomputable def rI0(g:Int->Int->V):R2:=λx y H Q=>∃i j,x=.int i/\y=.int j/\Q (g i j) H
def rU(g:Int->V):V->Hp->VK->Prop:=λx H Q=>∃i,x=.int i/\Q (g i) H
section
variable{X:Cx}{a b c:L_}{ta tb tc:TE}
theorem binT(ha:PE X a ta)(hb:PE X b tb){s:c_}{U:St}{H:Hp}{R:V->V->Hp->Prop}(I:Inv X aa U H s)(h:ta U H λx H1=>tb U H1 λy H2=>R x y H2){Q:b_->c_->Prop}{f:b_->b_->Sem b_}(hf:∀v u s2 x y H2,Inv X aa U H2 s2->RelV x v->RelV y u->R x y H2->m_ (l_ X.prog X.w) X.A (f v u) Q X.xe s2):
  m_ (l_ X.prog X.w) X.A (eval a X.env) (λv au=>m_ (l_ X.prog X.w) X.A (eval b X.env) (λu fe=>m_ (l_ X.prog X.w) X.A (f v u) Q X.xe fe) X.xe au) X.xe s:=by
 refine thn (ha aa s U H _ I h) λv s1 ⟨x,H1,I1,r1,q1⟩=>?_
 refine thn (hb aa s1 U H1 _ I1 q1) λu s2 ⟨y,H2,I2,r2,q2⟩=>?_
 exact hf v u s2 x y H2 I2 r1 r2 q2
theorem Dw{op:Operator}{r:R2}(ho:OpR X (R5 op) r)(ha:PE X a ta)(hb:PE X b tb):PE X (.BinOp a op b pos) (tOp r ta tb):=by
 intro aa s U H Q I h;exact wpAny_BinOp (binT ha hb I h λv u s2 x y H2 I2 rx ry q=>ho aa s2 U H2 x y v u Q I2 rx ry q)
theorem HV{op:UnaryOp}{r:V->Hp->VK->Prop}(ho:UnR X (unaryOp op) r)(ha:PE X a ta):PE X (.UnaryOp op a pos) (tUn r ta):=by
 intro aa s U H Q I h;exact UnaryOp_ (thn (ha aa s U H _ I h) λv s1 ⟨x,H1,I1,r1,q1⟩=>ho aa s1 U H1 x v Q I1 r1 q1)
theorem opI{f:b_->b_->Sem b_}{C:Int->Int->Prop}{g:Int->Int->Int}(rule:∀(i j:Int) (t u:Tok) (s:c_) (Q:b_->c_->Prop) (E:b_->c_->Prop),C i j->Q (.int (g i j) s.toks) { s with toks:=s.toks+1 }->m_ (l_ X.prog X.w) X.A (f (.int i t) (.int j u)) Q E s):
  OpR X f (rI C λi j=>.int (g i j)):=by
 intro aa s U H x y v u Q I rx ry h;obtain⟨i,j,rfl,rfl,hc,q⟩:=h;obtain⟨t,rfl⟩:=rx;obtain⟨t',rfl⟩:=ry;exact rule i j t t' s _ _ hc ⟨.int (g i j),H,I.tok _,⟨_,rfl⟩,q⟩
theorem opI0{f:b_->b_->Sem b_}{g:Int->Int->Int}(rule:∀(i j:Int) (t u:Tok) (s:c_) (Q:b_->c_->Prop) (E:b_->c_->Prop),Q (.int (g i j) s.toks) { s with toks:=s.toks+1 }->m_ (l_ X.prog X.w) X.A (f (.int i t) (.int j u)) Q E s):
  OpR X f (rI0 λi j=>.int (g i j)):=by
 intro aa s U H x y v u Q I rx ry h;obtain⟨i,j,rfl,rfl,q⟩:=h;obtain⟨t,rfl⟩:=rx;obtain⟨t',rfl⟩:=ry;exact rule i j t t' s _ _ ⟨.int (g i j),H,I.tok _,⟨_,rfl⟩,q⟩
theorem opB0{f:b_->b_->Sem b_}{g:Int->Int->Bool}(rule:∀(i j:Int) (t u:Tok) (s:c_) (Q:b_->c_->Prop) (E:b_->c_->Prop),Q (.bool (g i j)) s->m_ (l_ X.prog X.w) X.A (f (.int i t) (.int j u)) Q E s):
  OpR X f (rI0 λi j=>.bl (g i j)):=by
 intro aa s U H x y v u Q I rx ry h;obtain⟨i,j,rfl,rfl,q⟩:=h;obtain⟨t,rfl⟩:=rx;obtain⟨t',rfl⟩:=ry;exact rule i j t t' s _ _ ⟨.bl (g i j),H,I,rfl,q⟩
def CPow(i j:Int):Prop:=0<=j/\j<=1000000/\i.natAbs < 2 ^ 64
def CMul(i j:Int):Prop:=(-(2 ^ 64) < i/\i < 2 ^ 64)\/(-(2 ^ 64) < j/\j < 2 ^ 64)
theorem CMul.ok{i j:Int}(h:CMul i j):IntMulOk i j:=by
 rcases h with⟨h1,h2⟩ | ⟨h1,h2⟩
 ·exact .of_left (intBits_le_64 h1 h2)
 ·exact .of_right (intBits_le_64 h1 h2)
theorem Nb:OpR X (R5 .Add) (rI0 λi j=>.int (i+j)):=opI0 λ_ _ _ _ _ _ _ q=>add_int q
theorem M6:OpR X (R5 .Sub) (rI0 λi j=>.int (i - j)):=opI0 λ_ _ _ _ _ _ _ q=>sub_int q
theorem Mn:OpR X (R5 .Mult) (rI CMul λi j=>.int (i*j)):=opI λ_ _ _ _ _ _ _ hc q=>mul_int q hc.ok
theorem MO:OpR X (R5 .Mod) (rI (λ_ j=>0 < j) λi j=>.int (i % j)):=opI λi j _ _ _ _ _ hc q=>by
 have h1:(0:Int) < j:=hc;exact mod_int' (by omega) (by rw[Int.fmod_eq_emod_of_nonneg i (by omega)];exact q)
theorem OJ:OpR X (R5 .Pow) (rI CPow λi j=>.int (i ^ j.toNat)):=opI λ_ _ _ _ _ _ _ hc q=>pow_int_small hc.1 hc.2.1 hc.2.2 q
theorem unI{f:b_->Sem b_}{g:Int->Int}(rule:∀(i:Int) (t:Tok) (s:c_) (Q:b_->c_->Prop) (E:b_->c_->Prop),Q (.int (g i) s.toks) { s with toks:=s.toks+1 }->m_ (l_ X.prog X.w) X.A (f (.int i t)) Q E s):
  UnR X f (rU λi=>.int (g i)):=by
 intro aa s U H x v Q I rx h;obtain⟨i,rfl,q⟩:=h;obtain⟨t,rfl⟩:=rx;exact rule i t s _ _ ⟨.int (g i),H,I.tok _,⟨_,rfl⟩,q⟩
theorem NR:UnR X (unaryOp .USub) (rU λi=>.int (-i)):=unI λ_ _ _ _ _ q=>neg_int q
end
section
variable{X:Cx}{a b c:L_}{ta tb tc:TE}
theorem GY{U:St}{H:Hp}{s:c_}{Q:VK}{k k':Bool}(I:Inv X aa U H s)(q:Q (.bl k) H)(e:k=k'):EP X aa U Q (.bool k') s:=by
 subst e;exact⟨.bl k,H,I,rfl,q⟩
theorem A9:OpR X (Rq .Lt) (rI0 λi j=>.bl (decide (i < j))):=opB0 λ_ _ _ _ _ _ _ q=>lt_int q
theorem yQ:OpR X (Rq .LtE) (rI0 λi j=>.bl (decide (i<=j))):=opB0 λ_ _ _ _ _ _ _ q=>le_int q
theorem N3:OpR X (Rq .Gt) (rI0 λi j=>.bl (decide (j < i))):=opB0 λ_ _ _ _ _ _ _ q=>gt_int q
theorem NQ:OpR X (Rq .GtE) (rI0 λi j=>.bl (decide (j<=i))):=opB0 λ_ _ _ _ _ _ _ q=>ge_int q
theorem EI:OpR X (Rq .Is) (λx y H Q=>y=.non/\Q (.bl (decide (x=.non))) H):=by
 intro aa s U H x y v u Q I rx ry h;obtain⟨rfl,q⟩:=h;cases ry;refine is_none_gen (GY I q ?_)
 cases x<;>first
  | (cases rx;rfl)
  | (obtain⟨t,rfl⟩:=rx;rfl)
theorem Jk:OpR X (Rq .IsNot) (λx y H Q=>y=.non/\Q (.bl (!decide (x=.non))) H):=by
 intro aa s U H x y v u Q I rx ry h;obtain⟨rfl,q⟩:=h;cases ry;refine isnot_none_gen (GY I q ?_)
 cases x<;>first
  | (cases rx;rfl)
  | (obtain⟨t,rfl⟩:=rx;rfl)
theorem OpR.or{f:b_->b_->Sem b_}{r r':R2}(h:OpR X f r)(h':OpR X f r'):OpR X f (λx y H Q=>r x y H Q\/r' x y H Q):=by
 intro aa s U H x y v u Q I rx ry q
 rcases q with q | q
 ·exact h aa s U H x y v u Q I rx ry q
 ·exact h' aa s U H x y v u Q I rx ry q
theorem nomark(b:L_)(h:op≠.In:=by decide)(h2:op≠.NotIn:=by decide):Sv op b=false:=by
 have e1:(op == CmpOp.In)=false:=by cases op<;>first | rfl | exact absurd rfl h
 have e2:(op == CmpOp.NotIn)=false:=by cases op<;>first | rfl | exact absurd rfl h2
 cases b<;>simp[Sv,e1,e2]
theorem IT{r:R2}(ho:OpR X (Rq op) r)(ha:PE X a ta)(hb:PE X b tb)(hm:Sv op b=false):PE X (.Compare a [op] [b] pos) (tOp r ta tb):=by
 intro aa s U H Q I h;exact wpAny_Compare1 (binT ha hb I h λv u s2 x y H2 I2 rx ry q=>ho aa s2 U H2 x y v u Q I2 rx ry q) hm
noncomputable def tTest(t:TE):TT:=λU H Q=>t U H λx H'=>∃k,x=.bl k/\Q k H'
theorem Gj{r:R2}(ho:OpR X (Rq op) r)(ha:PE X a ta)(hb:PE X b tb)(hm:Sv op b=false):PT X (.Compare a [op] [b] pos) (tTest (tOp r ta tb)):=by
 intro aa s U H Q I h
 refine wpAny_isTrue_Compare1 (thn (ha aa s U H _ I h) λv s1 ⟨x,H1,I1,r1,q1⟩=>thn (hb aa s1 U H1 _ I1 q1) λu s2 ⟨y,H2,I2,r2,q2⟩ =>
  thn (ho aa s2 U H2 x y v u _ I2 r1 r2 q2) λc s3 ⟨z,H3,I3,r3,k,e,q3⟩=>?_) hm
 subst e;cases r3;exact Ra ⟨H3,I3,q3⟩
noncomputable def tChain(r r':R2)(ta tb tc:TE):TE:=λU H Q=>ta U H λx H1=>tb U H1 λy H2=>r x y H2 λz H3=>∃k,z=.bl k ∧
 (if k=true then tc U H3 λw' H4=>r' y w' H4 Q else Q (.bl false) H3)
theorem Ja{r r':R2}(ho:OpR X (Rq op) r)(cz:OpR X (Rq cC) r')(ha:PE X a ta)(hb:PE X b tb)(hc:PE X c tc)(hm:Uo [op,cC] [b,c]=false:=by with_unfolding_all rfl):PE X (.Compare a [op,cC] [b,c] pos) (tChain r r' ta tb tc):=by
 intro aa s U H Q I h
 refine Compare_chain (thn (ha aa s U H _ I h) λv s1 ⟨x,H1,I1,r1,q1⟩=>chain_link (thn (hb aa s1 U H1 _ I1 q1) λu s2 ⟨y,H2,I2,r2,q2⟩ =>
  thn (ho aa s2 U H2 x y v u _ I2 r1 r2 q2) λd s3 ⟨z,H3,I3,r3,k,e,q3⟩=>?_)) hm
 subst e;cases r3;refine Ra ?_;cases k with
 | false=>exact ite_ff ⟨.bl false,H3,I3,rfl,q3⟩
 | true=>exact ite_tt (chain_last (thn (hc aa s3 U H3 _ I3 q3) λw' s4 ⟨z',H4,I4,r4,q4⟩=>cz aa s4 U H4 y z' u w' Q I4 r2 r4 q4))
theorem HK{r r':R2}(ho:OpR X (Rq op) r)(cz:OpR X (Rq cC) r')(ha:PE X a ta)(hb:PE X b tb)(hc:PE X c tc)(hm:Uo [op,cC] [b,c]=false:=by with_unfolding_all rfl):PT X (.Compare a [op,cC] [b,c] pos) (tTest (tChain r r' ta tb tc)):=by
 intro aa s U H Q I h
 refine isTrue_chain (thn (ha aa s U H _ I h) λv s1 ⟨x,H1,I1,r1,q1⟩=>test_link (thn (hb aa s1 U H1 _ I1 q1) λu s2 ⟨y,H2,I2,r2,q2⟩ =>
  thn (ho aa s2 U H2 x y v u _ I2 r1 r2 q2) λd s3 ⟨z,H3,I3,r3,k,e,q3⟩=>?_)) hm
 subst e;cases r3;refine Ra ?_;cases k with
 | false =>
  obtain⟨k',e',q'⟩:=q3;cases e';exact ite_ff ⟨H3,I3,q'⟩
 | true =>
  refine ite_tt (test_last (thn (hc aa s3 U H3 _ I3 q3) λw' s4 ⟨z',H4,I4,r4,q4⟩=>thn (cz aa s4 U H4 y z' u w' _ I4 r2 r4 q4) λd' s5 ⟨z2,H5,I5,r5,k2,e2,q5⟩=>?_));subst e2;cases r5;exact Ra ⟨H5,I5,q5⟩
theorem line63:(D_:Nat) < 2 ^ 63:=by rw[Rz];decide
theorem Hq:OpR X (R5 .Add) (λx y H Q=>∃i j,x=.str i/\y=.str j/\i.length+j.length<=D_/\Q (.str (i++j)) H):=by
 intro aa s U H x y v u Q I rx ry h;obtain⟨i,j,rfl,rfl,hz,q⟩:=h;obtain⟨t,rfl⟩:=rx;obtain⟨t',rfl⟩:=ry;exact add_str (λt' tk=>⟨.str (i++j),H,I.tok _,⟨_,rfl⟩,q⟩) hz
theorem vals1{x:V}(r:Vals [x] us):∃u,us=[u]/\RelV x u:=by
 cases r with
 | cons r1 r2=>cases r2;exact⟨_,rfl,r1⟩
theorem vals2{x y:V}(r:Vals [x,y] us):∃u w',us=[u,w']/\RelV x u/\RelV y w':=by
 cases r with
 | cons r1 r2 =>
  cases r2 with
  | cons r3 r4=>cases r4;exact⟨_,_,rfl,r1,r3⟩
theorem HQ(hc:X.calm=true):CallR X (.builtin "max") (λxs H Q=>∃i j,xs=[.int i,.int j]/\Q (.int (if j > i then j else i)) H):=by
 intro aa s U H xs us Q I r h;obtain⟨i,j,rfl,q⟩:=h;obtain⟨u,w',rfl,⟨t,rfl⟩,⟨t',rfl⟩⟩:=vals2 r;refine max_two_ints (I.ok.hd hc) λh' tk k=>⟨_,H,I.kept k,?_,q⟩
 by_cases hj:j > i
 ·rw[if_pos hj,if_pos hj];exact⟨_,rfl⟩
 ·rw[if_neg hj,if_neg hj];exact⟨_,rfl⟩
theorem N0(hc:X.calm=true):CallR X (.builtin "min") (λxs H Q=>∃i j,xs=[.int i,.int j]/\Q (.int (if j < i then j else i)) H):=by
 intro aa s U H xs us Q I r h;obtain⟨i,j,rfl,q⟩:=h;obtain⟨u,w',rfl,⟨t,rfl⟩,⟨t',rfl⟩⟩:=vals2 r;refine min_two_ints (I.ok.hd hc) λh' tk k=>⟨_,H,I.kept k,?_,q⟩
 by_cases hj:j < i
 ·rw[if_pos hj,if_pos hj];exact⟨_,rfl⟩
 ·rw[if_neg hj,if_neg hj];exact⟨_,rfl⟩
end
theorem RelO.some_of{v:V}{o:Option b_}(r:RelO (some v) o):∃u,o=some u/\RelV v u:=by
 cases o with
 | none=>exact(show False from r).elim
 | some u=>exact⟨u,rfl,r⟩
section
variable{X:Cx}{U:St}{H:Hp}{s:c_}{a dx:g_}{fs:List (Str×V)}{f:Str}{v:V}{E:b_->c_->Prop}
theorem MI{prog:u_}{w:C_}{f:Str}{s:c_}{Q:b_->c_->Prop}(hb:Sw e f env (eval e env)=eval e env)(h:m_ (l_ prog w) A (eval e env) (λo au=>m_ (l_ prog w) A (getAttr o f true) Q E au) E s):m_ (l_ prog w) A (eval (.Attribute e f pos) env) Q E s:=
 Attribute_any_ h (by rw[arm_eval_Attribute,hb])
end
structure Room(k:Nat)(A:Rh):Prop where
 hd:A.handled=none
 dp:A.depth+3*k+5 < Vw
 un:A.units+16*k+200 < Sa
 gd:A.guards=some []
theorem Room.mono{j k:Nat}(r:Room k A)(h:j<=k):Room j A:=⟨r.hd,by have:=r.dp;omega,by have:=r.un;omega,r.gd⟩
theorem Room.deeper{k:Nat}(r:Room (k+1) A)(env:Env):Room k (A.deeper env):=
 ⟨r.hd,by have:=r.dp;show A.depth+1+3*k+5 < _;omega,by have:=r.un;show A.units+3+16*k+200 < _;omega,r.gd⟩
theorem Room.in1{k:Nat}(r:Room (k+1) A):Room k A.in1:=
 ⟨r.hd,by have:=r.dp;show A.depth+3*k+5 < _;omega,by have:=r.un;show A.units+1+16*k+200 < _;omega,r.gd⟩
theorem Iw:(A.under (.builtin "type.__call__" ⟨.ref C::us,kw⟩)).depth=A.depth+1:=by
 first | rfl | simp[Rh.under,Xj.weight,Xj.isCreation,Xj.isGuard,Xj.isCaller,Xj.frames,isFrame,guardIds]
theorem Hw:(A.under (.builtin "type.__call__" ⟨.ref C::us,kw⟩)).units=A.units+1:=by
 first | rfl | simp[Rh.under,Xj.cUnits,Xj.frames,isFrame]
theorem Room.make{k:Nat}(r:Room (k+1) A)(C:g_)(us:List b_)(kw:List (Str×b_)):Room k (A.under (.builtin "type.__call__" ⟨.ref C::us,kw⟩)):=
 ⟨r.hd,by have:=r.dp;rw[Iw];omega,by have:=r.un;rw[Hw];omega,(by first | exact r.gd | (simp only[Rh.under];exact r.gd) | simpa[Rh.under,Xj.isGuard,guardIds] using r.gd)⟩
theorem Room.depth{k:Nat}(r:Room k A):A.depth < Vw:=by have:=r.dp;omega
noncomputable def tNil:TA:=λ_ H Q=>Q [] H
noncomputable def tCons(ta:TE)(tr:TA):TA:=λU H Q=>ta U H λx H1=>tr U H1 λxs H2=>Q (x::xs) H2
section
variable{X:Cx}{es:List L_}{te:TE}{t:TA}
theorem wO:PA X [] tNil:=λ_ _ _ _ H Q I h=>Th ⟨[],H,I,.nil,h⟩
theorem vI(ha:PE X e te)(hr:PA X es t)(hs:f_ (e::es) X.env=(false,eval e X.env)::f_ es X.env:=by rfl):PA X (e::es) (tCons te t):=by
 intro pos aa s U H Q I h;rw[hs];show m_ _ _ (spliced ((false,eval e X.env)::P_ pos (f_ es X.env))) _ _ s;refine S2 (thn (ha aa s U H _ I h) λu s1 ⟨x,H1,I1,r1,q1⟩=>?_);exact thn (hr pos aa s1 U H1 _ I1 q1) λus s2 ⟨xs,H2,I2,r2,q2⟩=>⟨x::xs,H2,I2,.cons r1 r2,q2⟩
noncomputable def tTup(t:TA):TE:=λU H Q=>t U H λxs H1=>xs.length<=D_/\∀p,H1 p=none->Q (.ref p) (upd H1 p (.tup xs))
noncomputable def tLst(t:TA):TE:=λU H Q=>t U H λxs H1=>xs.length<=D_/\∀p,H1 p=none->Q (.ref p) (upd H1 p (.lst xs))
theorem N6{x1}(h:PA X es t):PE X (.Tuple es x1 pos) (tTup t):=by
 intro aa s U H Q I hq;refine wpAny_Tuple_spliced (thn (h pos aa s U H _ I hq) λus s1 ⟨xs,H1,I1,r,z,q⟩=>⟨by rw[←r.length];exact z,?_⟩);have hf:H1 s1.heap.objs.size=none:=I1.hok.fresh (x_ _);refine⟨.ref s1.heap.objs.size,upd H1 s1.heap.objs.size (.tup xs),I1.laid (t':=s1.toks) (λb u e=>e_ _ e) (x_ _) ?_,rfl,q _ hf⟩;exact⟨z,us,r,⟨_,r_ _ rfl,rfl,_,rfl⟩⟩
theorem MB(h:PA X es t):PE X (.List es pos) (tLst t):=by
 intro aa s U H Q I hq;refine wpAny_List_spliced (thn (h pos aa s U H _ I hq) λus s1 ⟨xs,H1,I1,r,z,q⟩=>⟨by rw[←r.length];exact z,?_⟩);have hf:H1 s1.heap.objs.size=none:=I1.hok.fresh (x_ _);refine⟨.ref s1.heap.objs.size,upd H1 s1.heap.objs.size (.lst xs),I1.laid (t':=s1.toks) (λb u e=>e_ _ e) (x_ _) ?_,rfl,q _ hf⟩;exact⟨z,us,0,r,r_ _ rfl⟩
end
abbrev Sp:=List V->Hp->VK->XK->Prop
abbrev CXT:=List Env->Hp->c_->XK->b_->c_->Prop
structure Env0(P:u_)(w:C_)(K:PySem.W.Frag)(mg:Str->Option b_)(base:K_)(A:Rh)(outer:List Env)(s:c_)(H:Hp):Prop where
 frames:A.frames=some outer
 mod:Mod K mg base
 bs:∀b o,base.get? b=some o->s.heap.get? b=some o/\H b=none
 bsz:base.objs.size<=s.heap.objs.size
 funs:s.heap.FunFrames base outer
 frf:∀b∈frs outer,H b=none
 hok:HOk P w H s.heap
 bare:Tf s.gens
 tb:TabsOk K H
def CE(outer:List Env)(P:u_)(w:C_)(H:Hp)(s:c_)(Q:VK)(u:b_)(s':c_):Prop:=
 ∃v H',s'.os=s.os/\Tf s'.gens/\Un (frs outer) [] H H' s.heap s'.heap/\HOk P w H' s'.heap/\RelV v u/\Q v H'
def CR(CX:CXT)(outer:List Env)(P:u_)(w:C_)(H:Hp)(s:c_)(Q:VK)(E:XK)(r:WR)(s':c_):Prop:=
 match r with
 | .ok (.ret u)=>CE outer P w H s Q u s'
 | .ok _=>False
 | .error e=>CX outer H s E e s'
structure FnOk(P:u_)(w:C_)(K:PySem.W.Frag)(mg:Str->Option b_)(base:K_)(CX:CXT)(k:Nat)(f:g_)(fd:R6)(ps:List Str)(sp:Sp):Prop where
 len:∀vs H Q E,sp vs H Q E->vs.length=ps.length
 run:∀(A:Rh) (outer:List Env) (s:c_) (H:Hp) (args:Args) (us:List b_) (vs:List V) (Q:VK) (E:XK),Room k A->Env0 P w K mg base A outer s H->Wg s fd args (ps.zip us)->Vals vs us->sp vs H Q E →
  RS (l_ P w) A (.call (.ref f) args) (CR CX outer P w H s Q E) s
theorem Env0.make{P:u_}{w:C_}{K:PySem.W.Frag}{outer:List Env}{s:c_}{H:Hp}(e:Env0 P w K mg base A outer s H)(C:g_)(us:List b_)(kw:List (Str×b_)):
  Env0 P w K mg base (A.under (.builtin "type.__call__" ⟨.ref C::us,kw⟩)) outer s H:=⟨by first | exact e.frames | (simpa[Rh.under,Xj.envs,isFrame,pushEnvs] using e.frames),e.mod,e.bs,e.bsz,e.funs,e.frf,e.hok,e.bare,e.tb⟩
theorem Env0.in1{P:u_}{w:C_}{K:PySem.W.Frag}{outer:List Env}{s:c_}{H:Hp}(e:Env0 P w K mg base A outer s H):
  Env0 P w K mg base A.in1 outer s H:=⟨e.frames,e.mod,e.bs,e.bsz,e.funs,e.frf,e.hok,e.bare,e.tb⟩
section
variable{X:Cx}{U:St}{H:Hp}{s:c_}
theorem Inv.env0(I:Inv X aa U H s):Env0 X.prog X.w X.K X.mg X.base X.A X.stack s H:=
 ⟨I.ok.frames,I.ok.mod,I.bs,z_ I.ok.bsz I.sz,I.stack,I.stkFree,I.hok,I.bare,λc P h=>I.base.tbls P _ (I.ok.tb c P h)⟩
theorem Inv.after{Q:VK}{u:b_}(I:Inv X aa U H s)(h:CE X.stack X.prog X.w H s Q u s'):EP X aa U Q u s':=by
 obtain⟨v,H',os,bare,un,hok,r,q⟩:=h;obtain⟨hh,g,d,t,gR⟩:=s';obtain rfl:gR=s.os:=os;exact⟨v,H',I.call (h':=hh) (g':=g) (d':=d) (t':=t) (ch:=[]) un hok bare (λb z=>absurd z (by simp)),r,q⟩
end
noncomputable def tCall(sp:Sp)(fh:List V)(E:XK)(t:TA):TE:=λU H Q=>t U H λvs H1=>sp (vs++fh) H1 Q E
def Binds(K:PySem.W.Frag)(fd:R6)(ps:List Str)(ds:List b_):Prop:=
 ∀(s:c_) (us:List b_),K.In s.heap->(us++ds).length=ps.length->Wg s fd ⟨us,[]⟩ (ps.zip (us++ds))
theorem Binds.all{K:PySem.W.Frag}(h:∀us:List b_,us.length=ps.length->RL fd ⟨us,[]⟩=pure (ps.zip us)):Binds K fd ps []:=λs us _ hl=>by
 rw[Rx] at hl ⊢;exact .of_eq (h us hl)
def Passes(CX:CXT)(X:Cx)(E:XK):Prop:=∀(aa:List (g_×Obj)) (U:St) (H:Hp) (s:c_) (e:b_) (s':c_),Inv X aa U H s->CX X.stack H s E e s'->X.xe e s'
section
variable{X:Cx}{CX:CXT}{k:Nat}{sp:Sp}{fh:List V}{ds:List b_}{E:XK}{x m:Str}{p:Pos}{o:L_}{es:List L_}{ta:TE}{t:TA}
theorem Mr{U:St}{H:Hp}{s:c_}{Q:VK}{vs:List V}(F:FnOk X.prog X.w X.K X.mg X.base CX k f fd ps sp)(hr:Room k X.A)(hb:Binds X.K fd ps ds)(hd:Vals fh ds)(hx:Passes CX X E)(I:Inv X aa U H s)(r:Vals vs us)(h:sp (vs++fh) H Q E):m_ (l_ X.prog X.w) X.A (call (.ref f) us) (EP X aa U Q) X.xe s:=by
 have r2:Vals (vs++fh) (us++ds):=r.append hd;have hl:(us++ds).length=ps.length:=by rw[←r2.length];exact F.len _ _ _ _ h
 refine S3 (R7 (F.run X.A X.stack s H ⟨us,[]⟩ (us++ds) (vs++fh) Q E hr I.env0 (hb s us I.kIn hl) r2 h) λr s' hq=>?_);cases r with
 | error e=>exact hx aa U H s e s' I hq
 | ok fl =>
  cases fl with
  | ret u=>exact I.after hq
  | next=>exact W9 hq
  | brk=>exact W9 hq
  | cont=>exact W9 hq
theorem yR(F:FnOk X.prog X.w X.K X.mg X.base CX k f fd ps sp)(hr:Room k X.A)(hg:Gl X x)(hm:X.mg x=some (.ref f))(hk:PySem.W.keepIn X.K (.ref f)=true)(hb:Binds X.K fd ps ds)(hd:Vals fh ds)(hx:Passes CX X E)(ha:PA X (e::es) t)(bi:(x == ("__debug__":Str))=false:=by decide)(he:f_ (e::es) X.env=(false,eval e X.env)::f_ es X.env:=by rfl)(aB:(P_ pos (f_ es X.env)).any (·.1)=false:=by rfl):
  PE X (.Call (.Name x p) (e::es) [] pos) (tCall sp fh E t):=by
 intro aa s U H Q I h;refine Rs (wE I hg hm ?_ bi);refine PySem.W.callWith_K (h₀:=X.base) I.ok.mod.kin hk (thn (ha pos aa s U H _ I h) λus s1 ⟨vs,H1,I1,r,q⟩=>⟨I1.kIn,?_⟩) he aB;exact Mr F hr hb hd hx I1 r q
end
structure FnScope(N P:List Str)(sc:Te):Prop where
 kind:sc.kind=.function
 co:sc.isCoroutine=false
 gen:sc.isGenerator=false
 nd:N.Nodup
 pre:N.take P.length=P
 par:∀x∈P,sc.names.lookup x=some .local\/sc.names.lookup x=some .cell
 nofree:∀y∈sc.names,y.2≠.free
theorem EM{kindOf:Str->Option RE}{x:Str}:∀{binds:List (Str×b_)}{m:Str->Option b_},(∀v,(x,v)∉binds)->WS kindOf binds m x=m x
 | [],_,_=>rfl
 | (n,v)::r,m,h=>by
  unfold WS;rw[EM λw hw=>h w (s_ _ hw)];split
  ·have:x≠n:=by rintro rfl;exact h v v_
   simp[this]
  ·rfl
theorem E3{kindOf:Str->Option RE}{x:Str}:∀{binds:List (Str×b_)}{m:Str->Option b_},(∀v,(x,v)∉binds)->WT kindOf binds m x=m x
 | [],_,_=>rfl
 | (n,v)::r,m,h=>by
  unfold WT;rw[E3 λw hw=>h w (s_ _ hw)];split
  ·rfl
  ·have:x≠n:=by rintro rfl;exact h v v_
   simp[this]
theorem Fv{kindOf:Str->Option RE}{x:Str}{v:b_}:∀{P:List Str}{vs:List b_}{i:Nat}{m:Str->Option b_},P.Nodup->P[i]?=some x->vs[i]?=some v->kindOf x=some .local →
  WS kindOf (P.zip vs) m x=some v
 | [],_,_,_,_,h,_,_=>by simp at h
 | _::_,[],_,_,_,_,h,_=>by simp at h
 | p::P,w::vs,0,m,nd,h1,h2,hk=>by
  simp at h1 h2;subst h1;subst h2;show WS kindOf ((p,w)::P.zip vs) m p=_;unfold WS;rw[EM λv hv=>(Tz.mp nd).1 (WU hv).1,if_pos hk];simp
 | p::P,w::vs,i+1,m,nd,h1,h2,hk=>by
  show WS kindOf ((p,w)::P.zip vs) m x=_;unfold WS;exact Fv (i:=i) (Tz.mp nd).2 (by simpa using h1) (by simpa using h2) hk
theorem CY{kindOf:Str->Option RE}{x:Str}{v:b_}:∀{P:List Str}{vs:List b_}{i:Nat}{m:Str->Option b_},P.Nodup->P[i]?=some x->vs[i]?=some v->kindOf x≠some .local →
  WT kindOf (P.zip vs) m x=some v
 | [],_,_,_,_,h,_,_=>by simp at h
 | _::_,[],_,_,_,_,h,_=>by simp at h
 | p::P,w::vs,0,m,nd,h1,h2,hk=>by
  simp at h1 h2;subst h1;subst h2;show WT kindOf ((p,w)::P.zip vs) m p=_;unfold WT;rw[E3 λv hv=>(Tz.mp nd).1 (WU hv).1,if_neg hk];simp
 | p::P,w::vs,i+1,m,nd,h1,h2,hk=>by
  show WT kindOf ((p,w)::P.zip vs) m x=_;unfold WT;exact CY (i:=i) (Tz.mp nd).2 (by simpa using h1) (by simpa using h2) hk
noncomputable def start(N:List Str)(vs:List V):St:=vs.map some++QY (N.length - vs.length) none
noncomputable def cxOf(CX:CXT)(P:u_)(w:C_)(K:PySem.W.Frag)(mg:Str->Option b_)(base:K_)(N:List Str)(qual:Str)(scope:Te)(f:g_)(cd:b_)(A:Rh)(outer:List Env)(s:c_)(H:Hp)(E:XK):Cx where
 prog:=P
 w:=w
 K:=K
 mg:=mg
 base:=base
 A:=A.deeper (SR qual scope s.heap.objs.size f cd)
 N:=N
 s₀:=s
 H₀:=H
 env:=SR qual scope s.heap.objs.size f cd
 outer:=outer
 stack:=SR qual scope s.heap.objs.size f cd::outer
 ex:=[]
 calm:=true
 fn:=λ_=>true
 pn:=[]
 xe:=λe s'=>m_ (l_ P w) (A.deeper (SR qual scope s.heap.objs.size f cd)) (leaving (SR qual scope s.heap.objs.size f cd) e) (λ_ gS=>CX outer H s E e gS) (λe' gS=>CX outer H s E e' gS) s'
theorem GV{sc:Te}{x:Str}(h:sc.names.lookup x=some .cell):∃c,(cellsFrom n sc.names []).lookup x=some c:=by
 have q:=PySem.W.cellsFrom_some sc.names n [] (.inl h);exact SV.mp q
theorem Nm{CX:CXT}{P:u_}{w:C_}{K:PySem.W.Frag}{outer:List Env}{s s1:c_}{H:Hp}{E:XK}{vs:List V}(S:FnScope N ps scope)(hd:A.handled=none)(e0:Env0 P w K mg base A outer s H)(hl:vs.length=ps.length)(r:Vals vs us)(x:InCallC s s.heap.objs.size (WS (SR qual scope s.heap.objs.size f cd).kindOf (ps.zip us) λ_=>none) (cellsFrom (s.heap.objs.size+1) scope.names []) (WT (SR qual scope s.heap.objs.size f cd).kindOf (ps.zip us) λ_=>none) s1):
  Inv (cxOf CX P w K mg base N qual scope f cd A outer s H E) [] (start N vs) H s1:=by
 have aB:ps.length<=N.length:=by have:=congrArg Vx S.pre;rw[UC] at this;omega
 obtain⟨h1,tk,rfl,hk⟩:=x.done;have lB:∀b:g_,b∉(cxOf CX P w K mg base N qual scope f cd A outer s H E).ex:=λb z=>absurd (show b∈([]:List g_) from z) (by simp)
 refine⟨⟨e0.mod,S.kind,rfl,rfl,x_ _,λy z c h1 h2=>?_,λy hy=>?_,λy c _ h=>?_,λ_=>hd,Rh.frames_deeper e0.frames,.inr ⟨rfl,rfl⟩,λb z=>absurd z (lB b),e0.bs,e0.bsz,λb _ _=>lB b,λb z=>absurd z (lB b),e0.funs,e0.frf,e0.tb⟩,
  rfl,e0.bare,Un.kept hk,⟨_,x.toInCall.ns,λi y v h1 h2 h3=>?_⟩,λy c h=>⟨_,x.cell y c h⟩,e0.hok.fresh (x_ _),λy c h=>?_,λp hp=>absurd (show p∈([]:List (g_×Obj)) from hp) (by simp),e0.hok.kept hk,?_⟩
 ·exact name_of_addr x.apart (PySem.mem_of_lookup h1) (PySem.mem_of_lookup h2)
 ·have hy:scope.names.lookup y=some .cell\/scope.names.lookup y=some .free:=hy
  rcases hy with hy | hy
  ·exact GV hy
  ·exact absurd rfl (S.nofree _ (PySem.mem_of_lookup hy))
 ·exact TR (x.above y c (PySem.mem_of_lookup h))
 ·have hi:i < vs.length:=by
   unfold start at h2;by_cases hi:i < vs.length
   ·exact hi
   ·rw[RO (by simpa using hi)] at h2;rw[Sb] at h2;split at h2<;>cases h2
  have ha:vs[i]?=some v:=by
   unfold start at h2;rw[RH (by simpa using hi),y_] at h2;cases e:vs[i]? with
   | none=>rw[e] at h2;cases h2
   | some a=>rw[e] at h2;cases h2;rfl
  obtain⟨u,hu,rv⟩:=r.get ha
  have hp:ps[i]?=some y:=by
   rw[←S.pre,List.getElem?_take_of_lt (by omega)];exact h1
  have nJ:ps.Nodup:=by rw[←S.pre];exact S.nd.sublist (List.take_sublist _ _)
  refine⟨u,rv,?_⟩
  rcases S.par y (Rg hp) with k | k
  ·exact .inl ⟨k,Fv nJ hp hu k⟩
  ·obtain⟨c,e⟩:=GV (n:=s.heap.objs.size+1) k;refine .inr ⟨.inl k,c,e,?_⟩;have q:=x.cell y c e;rw[CY nJ hp hu (by show scope.names.lookup y≠_;rw[k];decide)] at q;exact q
 ·exact e0.hok.fresh (TR (x.above y c (PySem.mem_of_lookup h)))
 ·unfold start;show _=N.length;rw[QZ,p_,N_];omega
theorem A4{CX:CXT}{P:u_}{w:C_}{K:PySem.W.Frag}{k:Nat}{name:Str}{dV kV bT ak:b_}{sp:Sp}(lk:K.lookup f=some ⟨oc,od,.func (Uc name qual params body scope dV kV bT pm an ak ct),cM⟩)(aT:W_ K ak qual=true)(S:FnScope N ps scope)(len:∀vs H Q E,sp vs H Q E->vs.length=ps.length)(dG:∀(A:Rh) (outer:List Env) (s:c_) (H:Hp) (vs:List V) (Q:VK) (E:XK),Room k (A.deeper (SR qual scope s.heap.objs.size f ak))->sp vs H Q E →
   ∃t,PSs (cxOf CX P w K mg base N qual scope f ak A outer s H E) body t/\t { nx:=λ_ H'=>Q .non H',rt:=Q } (start N vs) H):
  FnOk P w K mg base CX (k+1) f (Uc name qual params body scope dV kV bT pm an ak ct) ps sp:=by
 refine⟨len,λA outer s H args us vs Q E hr e0 hb r dX=>?_⟩;have hl:=len _ _ _ _ dX;have KX:K.In s.heap:=e0.mod.kin.keeps λb o e=>(e0.bs b o e).1
 have lim:s.heap.NoLimit:=e0.mod.nolimit.keeps λb o e=>(e0.bs b o e).1
 have ik:∀y∈ps.zip us,scope.names.lookup y.1=some .local\/(scope.names.lookup y.1=some .cell/\((cellsFrom (s.heap.objs.size+1) scope.names []).lookup y.1).isSome=true):=λ⟨n,v⟩ hy=>by
  rcases S.par n (WU hy).1 with q | q
  ·exact .inl q
  ·exact .inr ⟨q,PySem.W.cellsFrom_some _ _ _ (.inl q)⟩
 refine codeAny_call_function hr.depth (KX _ _ lk) rfl S.co S.gen rfl (PySem.W.codeRec_of KX aT) (hb _ _ _ _ ?_);refine wpAny_newFunctionEnv_cells S.kind ik λenv he s1 x=>?_
 subst he;refine⟨lim.keeps x.toInCall.keep,codeAny_func ?_⟩;obtain⟨t,ht,hq⟩:=dG A outer s H vs Q E (hr.deeper _) dX;have I:Inv (cxOf CX P w K mg base N qual scope f ak A outer s H E) [] (start N vs) H s1:=Nm S hr.hd e0 hl r x;refine Q9 (ht [] s1 (start N vs) H _ I hq) (λfl s' hs=>?_) λe s' hs=>hs
 have fin:∀{ai:St}{H':Hp}{v:V}{u:b_},Inv (cxOf CX P w K mg base N qual scope f ak A outer s H E) [] ai H' s'->RelV v u->Q v H'->CE outer P w H s Q u s':=
  λ{ai H' v u} J rv q=>⟨v,H',J.os,J.bare,J.base,J.hok,rv,q⟩
 cases fl with
 | ret u =>
  obtain⟨v,ai,H',J,rv,q⟩:=hs;exact fin J rv q
 | next =>
  obtain⟨ai,H',J,q⟩:=hs;exact fin (v:=V.non) (u:=b_.none) J rfl q
 | brk =>
  obtain⟨_,_,_,q⟩:=hs;exact W9 q
 | cont =>
  obtain⟨_,_,_,q⟩:=hs;exact W9 q
section
variable{X:Cx}{x:Str}{p:Pos}{es:List L_}{t:TA}{id T:String}{r:List V->Hp->VK->Prop}
noncomputable def tCB(r:List V->Hp->VK->Prop)(t:TA):TE:=λU H Q=>t U H λvs H1=>r vs H1 Q
theorem yC(hc:CallR X (.builtin id) r)(hg:Gl X x)(hm:X.mg x=none)(hv:RU x=some (.builtin id))(ha:PA X (e::es) t)(hn:x ≠ "__name__":=by decide)(bi:(x == ("__debug__":Str))=false:=by decide)(he:f_ (e::es) X.env=(false,eval e X.env)::f_ es X.env:=by rfl)(aB:(P_ pos (f_ es X.env)).any (·.1)=false:=by rfl):PE X (.Call (.Name x p) (e::es) [] pos) (tCB r t):=by
 intro aa s U H Q I h;refine Rs (v3 I hg hm hv ?_ hn bi);exact TB (thn (ha pos aa s U H _ I h) λus s1 ⟨vs,H1,I1,r1,q1⟩=>hc aa s1 U H1 vs us Q I1 r1 q1) he aB
theorem E9(hc:CallR X (.type T) r)(hg:Gl X x)(hm:X.mg x=none)(hv:RU x=some (.type T))(ha:PA X (e::es) t)(hn:x ≠ "__name__":=by decide)(bi:(x == ("__debug__":Str))=false:=by decide)(he:f_ (e::es) X.env=(false,eval e X.env)::f_ es X.env:=by rfl)(aB:(P_ pos (f_ es X.env)).any (·.1)=false:=by rfl):PE X (.Call (.Name x p) (e::es) [] pos) (tCB r t):=by
 intro aa s U H Q I h;refine Rs (v3 I hg hm hv ?_ hn bi);exact Rb (thn (ha pos aa s U H _ I h) λus s1 ⟨vs,H1,I1,r1,q1⟩=>hc aa s1 U H1 vs us Q I1 r1 q1) he aB
end
end L2
variable{xs zs:List L2.V}{o:L2.HO}{X:L2.Cx}{U sf:L2.St}{te tl:L2.TE}{H' H2 I I' G I0 J H0:L2.Hp}{ta:L2.TA}{sp:L2.Sp}{v0 vc:L2.V}
namespace HT
open PySem PyProof.Rows
section
variable{prog:u_}{w:C_}{E:b_->c_->Prop}{s:c_}
theorem IZ{t b:g_}{ws:List b_}{Q:b_->c_->Prop}(ht:WO s.heap t vs.toArray)(hb:WO s.heap b ws.toArray)(hv:vs≠[])(h1:ws=[]->Q (.ref t) s)(h2:ws≠[]->Q (.ref s.heap.objs.size) { s with heap:=s.heap.push { cls:=.type "tuple", data:=.seq (vs++ws).toArray } })(fG:vs.length+ws.length<=D_):m_ (l_ prog w) A (R5 .Add (.ref t) (.ref b)) Q E s:=by
 obtain⟨⟨cls,dd,data,sl⟩,ho,hc,n,hd⟩:=id ht;obtain⟨⟨nK,jE,data2,jF⟩,fH,dH,n2,dJ⟩:=id hb;simp only at hc hd dH dJ;subst hc hd dH dJ;have e:vs.toArray++ws.toArray=(vs++ws).toArray:=by simp
 by_cases hw:ws=[]
 ·exact Wh ⟨_,ho,rfl⟩ ⟨_,fH,rfl⟩ UW V2 Vy Vn (UX _ _)
   (tuple_addW1 t b vs.toArray ws.toArray n n2 dd jE sl jF (by simpa using hv) (by simp[hw])) ⟨ho,fH,h1 hw⟩
 ·refine Wh ⟨_,ho,rfl⟩ ⟨_,fH,rfl⟩ UW V2 Vy Vn (UX _ _)
   (tuple_addW2 t b vs.toArray ws.toArray n n2 dd jE sl jF (by simpa using hv) (by simpa using hw) (by rw[o_,o_];exact fG)) ⟨ho,fH,?_⟩
  rw[e];exact h2 hw
noncomputable def sIx(n d:Nat):Option Int->Nat
 | none=>d
 | some v=>if v < 0 then(v+(n:Int)).toNat else min v.toNat n
theorem An(n d:Nat):sIx n d none=d:=rfl
theorem Jw(n d:Nat)(hd:d<=n)(o:Option Int):sIx n d o<=n:=by
 cases o with
 | none=>exact hd
 | some v =>
  show(if v < 0 then(v+(n:Int)).toNat else min v.toNat n)<=n;by_cases hv:v < 0
  ·rw[if_pos hv];omega
  ·rw[if_neg hv];exact Nat.min_le_right _ _
theorem Dj(v:Int)(n d:Nat):(if v < 0 then max (v+(n:Int)) 0 else min v (n:Int))=((sIx n d (some v):Nat):Int):=by
 show(if v < 0 then max (v+(n:Int)) 0 else min v (n:Int))=(((if v < 0 then(v+(n:Int)).toNat else min v.toNat n):Nat):Int);by_cases hv:v < 0
 ·simp only[if_pos hv];omega
 ·simp only[if_neg hv];omega
theorem Ig(lo hi:Option Int)(n:Nat):WD lo hi 1 (n:Int)=(((sIx n 0 lo:Nat):Int),((sIx n n hi:Nat):Int)):=by
 have h1:¬((1:Int) < 0):=by omega
 unfold WD;simp only[h1,if_false];refine Prod.ext ?_ ?_
 ·cases lo with
  | none=>rfl
  | some v=>exact Dj v n 0
 ·cases hi with
  | none=>rfl
  | some v=>exact Dj v n n
theorem Nc(i j:Nat):Vz (i:Int) (j:Int) 1=j - i:=by
 unfold Vz;have h1:(1:Int) > 0:=by omega
 simp only[h1,if_true,Int.ediv_one];split<;>omega
theorem Gb{v:b_}{o:Option Int}{Q:Option Int->c_->Prop}(p:V8 v o)(h:Q o s):m_ (l_ prog w) A (RV.Slice.slicePartIndex v) Q E s:=by
 cases p with
 | none=>exact slicePart_none h
 | int i t=>exact slicePart_int h
theorem HJ{sl:g_}{lo:Option Int}{Q:Int×Int×Nat->c_->Prop}(hs:s.heap.IsSliceOf sl vl vu .none)(pl:V8 vl lo)(pu:V8 vu hi)(h:Q (((sIx n 0 lo:Nat):Int),1,sIx n n hi - sIx n 0 lo) s):m_ (l_ prog w) A (sliceApplied (.ref sl) (pure (n:Int))) Q E s:=by
 obtain⟨os,il,nL,gT⟩:=id hs;unfold sliceApplied RV.Slice.sliceFields;refine a_ (a_ (Rt il gT (x:=vl) rfl (a_ (Rt il gT (x:=vu) rfl (a_ (Rt il gT (x:=.none) rfl (d_ ?_)))))));refine a_ (slicePart_none ?_);show m_ _ _ (if((1:Int) == 0)=true then _ else _) _ _ s;rw[if_neg (by decide)];refine a_ (Gb pl (a_ (Gb pu (a_ (d_ ?_)))));show m_ _ _ (match WD lo hi 1 (n:Int) with | (lo,hi)=>pure (lo,(1:Int),Vz lo hi 1)) _ _ s;rw[Ig lo hi n];show m_ _ _ (pure (((sIx n 0 lo:Nat):Int),(1:Int),Vz ((sIx n 0 lo:Nat):Int) ((sIx n n hi:Nat):Int) 1)) _ _ s;rw[Nc];exact d_ h
theorem HF(xs:Array b_)(i k:Nat):((RR k).filterMap λ(m:Nat)=>xs[((i:Int)+(m:Int)*1).toNat]?).toArray=((xs.toList.drop i).take k).toArray:=by
 have e:(λ(m:Nat)=>xs[((i:Int)+(m:Int)*1).toNat]?)=λm=>xs[i+m]?:=by
  funext m
  have:((i:Int)+(m:Int)*1).toNat=i+m:=by omega
  rw[this]
 rw[e];have:=pick_run xs i k;rw[List.filterMap_map] at this;have e2:((λx=>xs[x]?)∘λx=>i+x)=λm=>xs[i+m]?:=rfl
 rw[e2] at this;rw[this]
theorem Oe{t sl:g_}{lo:Option Int}{Q:b_->c_->Prop}(ht:WO s.heap t ah)(hs:s.heap.IsSliceOf sl vl vu .none)(pl:V8 vl lo)(pu:V8 vu hi)(hw:¬(sIx ah.size 0 lo=0/\sIx ah.size ah.size hi=ah.size))(h:Q (.ref s.heap.objs.size) { s with heap:=s.heap.push { cls:=.type "tuple", data:=.seq ((ah.toList.drop (sIx ah.size 0 lo)).take (sIx ah.size ah.size hi - sIx ah.size 0 lo)).toArray } })(fG:ah.size<=D_):m_ (l_ prog w) A (WM (.ref t) (.ref sl)) Q E s:=by
 have eC:sizeOk (.seq ((ah.toList.drop (sIx ah.size 0 lo)).take (sIx ah.size ah.size hi - sIx ah.size 0 lo)).toArray):=by
  show((ah.toList.drop (sIx ah.size 0 lo)).take (sIx ah.size ah.size hi - sIx ah.size 0 lo)).toArray.size<=D_;rw[o_,UC,TU,RD];omega
 have hj:sIx ah.size ah.size hi<=ah.size:=Jw _ _ (x_ _) hi;obtain⟨os,il,nL,gT⟩:=id hs;have qm:s.TypeIs (.ref sl) "slice":=⟨os,il,nL⟩;unfold WM
 try with_reducible refine F_ ?_
 first | refine a_ (d_ ?_) | skip
 refine a_ (wpAny_sequenceKey ht.typeIs (by decide) ?_)
 refine a_ (Rr (name:=Sc "__getitem__") ht.typeIs R_
  (Rv R_ ht.typeIs entry_tuple_getitem ?_ (args_tuple_getitem _ _)))
 show m_ _ _ (tupleItemsOf (.ref t) >>= _) _ _ s;refine a_ (tupleItemsOf_ ht ?_);refine a_ (Vb qm ?_);rw[if_pos (by decide)];refine a_ (HJ hs pl pu ?_)
 have jG:¬((((sIx ah.size 0 lo:Nat):Int) == 0&&(1:Int) == 1&&(sIx ah.size ah.size hi - sIx ah.size 0 lo) == ah.size)=true):=by
  intro q;rw[I_,I_] at q;have q1:((sIx ah.size 0 lo:Nat):Int)=0:=eq_of_beq q.1.1;have q2:sIx ah.size ah.size hi - sIx ah.size 0 lo=ah.size:=eq_of_beq q.2;exact hw ⟨by omega,by omega⟩
 show m_ _ _ (if(((sIx ah.size 0 lo:Nat):Int) == 0&&(1:Int) == 1&&(sIx ah.size ah.size hi - sIx ah.size 0 lo) == ah.size)=true then _ else _) _ _ s;rw[if_neg jG,HF]
 first
  | exact a_ (m:=V9 _) (M_ (d_ ⟨_,rfl,d_ h⟩) eC)
  | exact a_ (m:=V9 _) (M_ (a_ (d_ (d_ ⟨_,rfl,d_ h⟩))) eC)
  | exact a_ (a_ (m:=V9 _) (M_ (d_ (d_ ⟨_,rfl,d_ h⟩)) eC))
  | exact a_ (a_ (m:=V9 _) (M_ (d_ ⟨_,rfl,d_ h⟩) eC))
end
end HT
namespace L2
open PySem PySem.Spec PyProof.Rows
abbrev TO:=St->Hp->(Option Int->Hp->Prop)->Prop
def PO(X:Cx)(e:Option L_)(t:TO):Prop:=
 ∀(aa:List (g_×Obj)) (s:c_) (U:St) (H:Hp) (Q:Option Int->Hp->Prop),Inv X aa U H s->t U H Q →
  m_ (l_ X.prog X.w) X.A (evalPart e X.env) (λu s'=>∃o H',Inv X aa U H' s'/\V8 u o/\Q o H') X.xe s
noncomputable def tNoPart:TO:=λ_ H Q=>Q none H
noncomputable def tPart(t:TE):TO:=λU H Q=>t U H λx H1=>∃i,x=.int i/\Q (some i) H1
section
variable{lo hi:Option L_}{tl th:TO}{p2:Pos}
theorem JS:PO X none tNoPart:=by
 intro aa s U H Q I h;rw[evalPart_none];exact d_ ⟨none,H,I,.none,h⟩
theorem Of(h:PE X e te):PO X (some e) (tPart te):=by
 intro aa s U H Q I hw;rw[evalPart_some];refine thn (h aa s U H _ I hw) λu s1 ⟨x,H1,I1,r1,q1⟩=>?_
 obtain⟨i,rfl,q⟩:=q1;obtain⟨t,rfl⟩:=r1;exact⟨some i,H1,I1,.int i t,q⟩
def SlR(X:Cx)(r:V->Option Int->Option Int->Hp->VK->Prop):Prop:=
 ∀(aa:List (g_×Obj)) (s:c_) (U:St) (H:Hp) (x:V) (v vl vu:b_) (lo hi:Option Int) (sl:g_) (Q:VK),Inv X aa U H s->RelV x v->s.heap.IsSliceOf sl vl vu .none->V8 vl lo->V8 vu hi->r x lo hi H Q →
  ∃T id,typeLookup (.type T) "__getitem__"=pure (some (.builtin id))/\s.TypeIs v T/\m_ (l_ X.prog X.w) X.A (WM v (.ref sl)) (EP X aa U Q) X.xe s
theorem SlR.or{r r':V->Option Int->Option Int->Hp->VK->Prop}(h:SlR X r)(h':SlR X r'):SlR X (λx lo hi H Q=>r x lo hi H Q\/r' x lo hi H Q):=by
 intro aa s U H x v vl vu lo hi sl Q I rx hs pl pu q
 rcases q with q | q
 ·exact h aa s U H x v vl vu lo hi sl Q I rx hs pl pu q
 ·exact h' aa s U H x v vl vu lo hi sl Q I rx hs pl pu q
noncomputable def tSl(r:V->Option Int->Option Int->Hp->VK->Prop)(te:TE)(tl th:TO):TE:=λU H Q=>te U H λx H1=>tl U H1 λl H2=>th U H2 λu H3=>r x l u H3 Q
theorem IU{r:V->Option Int->Option Int->Hp->VK->Prop}(hr:SlR X r)(he:PE X e te)(hl:PO X lo tl)(hu:PO X hi th):PE X (.Subscript e (.Slice lo hi none p2) pos) (tSl r te tl th):=by
 intro aa s U H Q I h;refine Subscript_ (thn (he aa s U H _ I h) λv s1 ⟨x,H1,I1,r1,q1⟩=>?_);refine wpAny_Slice (thn (hl aa s1 U H1 _ I1 q1) λvl s2 ⟨l,H2,I2,pl,q2⟩=>thn (hu aa s2 U H2 _ I2 q2) λvu s3 ⟨u,H3,I3,pu,q3⟩=>?_);rw[evalPart_none];refine d_ ?_;have I4:Inv X aa U H3 { s3 with heap:=s3.heap.push { cls:=.type "slice", data:=.fields #[vl,vu,.none] } }:=I3.kept (t':=s3.toks) λb ob q=>e_ _ q
 obtain⟨T,id,hT,ht,hg⟩:=hr aa { s3 with heap:=s3.heap.push { cls:=.type "slice", data:=.fields #[vl,vu,.none] } } U H3 x v vl vu l u s3.heap.objs.size Q I4 r1 (K_.IsSliceOf.new ..) pl pu q3;show m_ (l_ X.prog X.w) X.A (subscriptTail e (.Slice lo hi none p2) v (.ref s3.heap.objs.size)) (EP X aa U Q) X.xe { s3 with heap:=s3.heap.push { cls:=.type "slice", data:=.fields #[vl,vu,.none] } };exact tail_any (ops:=[.ref s3.heap.objs.size,v]) ht hT hg (by with_unfolding_all rfl)
noncomputable def cutV(xs:List V)(lo hi:Option Int):List V:=(xs.drop (HT.sIx xs.length 0 lo)).take (HT.sIx xs.length xs.length hi - HT.sIx xs.length 0 lo)
theorem GG(xs:List V)(lo hi:Option Int):(cutV xs lo hi).length<=xs.length:=by
 unfold cutV;rw[UC,TU];omega
def rSlT(K:PySem.W.Frag):V->Option Int->Option Int->Hp->VK->Prop:=λx lo hi H Q=>∃a xs,x=.ref a/\SqT K H a xs ∧
 ¬(HT.sIx xs.length 0 lo=0/\HT.sIx xs.length xs.length hi=xs.length)/\∀p,H p=none->Q (.ref p) (upd H p (.tup (cutV xs lo hi)))
theorem KI:SlR X (rSlT X.K):=by
 intro aa s U H x v vl vu lo hi sl Q I rx hs pl pu h;obtain⟨a,xs,rfl,hx,hw,q⟩:=h;cases rx;obtain⟨ac,r,ht,hz⟩:=I.tuple hx;have aR:ac.toArray.size=xs.length:=by rw[o_];exact r.length.symm
 refine⟨"tuple", _,R_.lookup,ht.typeIs,?_⟩;refine HT.Oe ht hs pl pu (by rw[aR];exact hw) ?_ (by rw[aR];exact hz);rw[aR];refine⟨.ref s.heap.objs.size,_,I.laid (t':=s.toks) (o:=.tup (cutV xs lo hi)) (λb ob q=>e_ _ q) (x_ _) ?_,rfl,q _ (I.hok.fresh (x_ _))⟩;exact⟨z_ (GG xs lo hi) hz,_,(r.drop (HT.sIx xs.length 0 lo)).take (HT.sIx xs.length xs.length hi - HT.sIx xs.length 0 lo),WO.new _ _⟩
noncomputable def rCatT(K:PySem.W.Frag):R2:=λx y H Q=>∃a b xs ys,x=.ref a/\y=.ref b/\SqT K H a xs/\SqT K H b ys/\xs≠[]/\xs.length+ys.length<=D_ ∧
 (ys=[]->Q (.ref a) H)/\(ys≠[]->∀p,H p=none->Q (.ref p) (upd H p (.tup (xs++ys))))
theorem Vals.nil_iff(r:Vals xs us):us=[]↔xs=[]:=by
 cases r with
 | nil=>simp
 | cons _ _=>simp
theorem Le:OpR X (R5 .Add) (rCatT X.K):=by
 intro aa s U H x y v u Q I rx ry h;obtain⟨a,b,xs,ys,rfl,rfl,ha,hb,hx,hz,q1,q2⟩:=h;cases rx;cases ry;obtain⟨ac,r1,p1,_⟩:=I.tuple ha;obtain⟨cx,r2,p2,_⟩:=I.tuple hb;refine HT.IZ p1 p2 (λz=>hx (r1.nil_iff.mp z)) (λz=>⟨.ref a,H,I,rfl,q1 (r2.nil_iff.mp z)⟩) (λz=>?_) (by rw[←r1.length,←r2.length];exact hz);refine⟨.ref s.heap.objs.size,_,I.laid (t':=s.toks) (o:=.tup (xs++ys)) (λb ob q=>e_ _ q) (x_ _) ?_,rfl,q2 (λw=>z (r2.nil_iff.mpr w)) _ (I.hok.fresh (x_ _))⟩;exact⟨by rw[QZ];exact hz,_,r1.append r2,WO.new _ _⟩
end
noncomputable def ixN(n:Nat)(i:Int):Option Nat:=if 0<=i then(if i < n then some i.toNat else none) else if -(n:Int)<=i then some (i+n).toNat else none
noncomputable def atI{α:Type}(xs:List α)(i:Int):Option α:=(ixN xs.length i).bind λj=>xs[j]?
theorem Dc{i:Int}{j:Nat}(h:ixN n i=some j):seqIndex? i n=some j/\j < n/\-(n:Int)<=i/\i < n:=by
 unfold ixN at h;by_cases h0:0<=i
 ·rw[if_pos h0] at h;by_cases h1:i < n
  ·rw[if_pos h1] at h;have e:i.toNat=j:=QX h;exact⟨by rw[WE h0 h1,e],by omega,by omega,h1⟩
  ·rw[if_neg h1] at h;cases h
 ·rw[if_neg h0] at h;by_cases h1:-(n:Int)<=i
  ·rw[if_pos h1] at h;have e:(i+n).toNat=j:=QX h;exact⟨by rw[seqIndex_neg (by omega) h1,e],by omega,h1,by omega⟩
  ·rw[if_neg h1] at h;cases h
theorem GH{α:Type}{xs:List α}{i:Int}{v:α}(h:atI xs i=some v):∃j,seqIndex? i xs.length=some j/\xs[j]?=some v/\j < xs.length/\-(xs.length:Int)<=i/\i < xs.length:=by
 unfold atI at h;cases e:ixN xs.length i with
 | none=>rw[e] at h;cases h
 | some j =>
  rw[e] at h;obtain⟨h1,h2,h3,h4⟩:=Dc e;exact⟨j,h1,h,h2,h3,h4⟩
theorem ML{α:Type}(xs:List α)(v:α):atI (xs++[v]) (-1)=some v:=by
 have hl:(xs++[v]).length=xs.length+1:=by simp
 have e:ixN (xs++[v]).length (-1)=some xs.length:=by
  unfold ixN;rw[hl,if_neg (by decide),if_pos (by omega)]
  congr 1
  omega
 unfold atI;rw[e];show(xs++[v])[xs.length]?=some v;simp
def PlainIx(b:L_):Prop:=∀o i,subscripted b false o i=operate [o,i] (WM o i)
def IxR(X:Cx)(r:R2):Prop:=
 ∀(value cD:L_) (aa:List (g_×Obj)) (s:c_) (U:St) (H:Hp) (x y:V) (v u:b_) (Q:VK),Inv X aa U H s->RelV x v->RelV y u->r x y H Q →
  subscripted cD false v u=operate [v,u] (WM v u)->m_ (l_ X.prog X.w) X.A (subscriptTail value cD v u) (EP X aa U Q) X.xe s
def MtR(X:Cx)(id:String)(r:V->List V->Hp->VK->Prop):Prop:=
 ∀(aa:List (g_×Obj)) (s:c_) (U:St) (H:Hp) (x:V) (xs:List V) (v:b_) (us:List b_) (Q:VK),Inv X aa U H s->RelV x v->Vals xs us->r x xs H Q →
  m_ (l_ X.prog X.w) X.A (call (.builtin id) (v::us)) (EP X aa U Q) X.xe s
section
variable{a b:L_}{ta tb:TE}
theorem IxR.or{r r':R2}(h:IxR X r)(h':IxR X r'):IxR X (λx y H Q=>r x y H Q\/r' x y H Q):=by
 intro value cD aa s U H x y v u Q I rx ry q hs
 rcases q with q | q
 ·exact h value cD aa s U H x y v u Q I rx ry q hs
 ·exact h' value cD aa s U H x y v u Q I rx ry q hs
theorem G8{r:R2}(hr:IxR X r)(ha:PE X a ta)(hb:PE X b tb)(hs:PlainIx b):PE X (.Subscript a b pos) (tOp r ta tb):=by
 intro aa s U H Q I h;exact Subscript_ (binT ha hb I h λv u s2 x y H2 I2 rx ry q=>hr a b aa s2 U H2 x y v u Q I2 rx ry q (hs _ _))
noncomputable def rIxL(K:PySem.W.Frag):R2:=λx y H Q=>∃p xs i v,x=.ref p/\y=.int i/\SqL K H p xs/\atI xs i=some v/\Q v H
noncomputable def rIxT(K:PySem.W.Frag):R2:=λx y H Q=>∃p xs i v,x=.ref p/\y=.int i/\SqT K H p xs/\atI xs i=some v/\Q v H
theorem EC:IxR X (rIxL X.K):=by
 intro value cD aa s U H x y v u Q I rx ry h hs;obtain⟨p,xs,i,z,rfl,rfl,hq,he,q⟩:=h;cases rx;obtain⟨t,rfl⟩:=ry;obtain⟨ac,r,pl,hz⟩:=I.list hq;obtain⟨j,h1,h2,h3,h4,h5⟩:=GH he;obtain⟨w,ew,im⟩:=r.get h2;have hl:=r.length;have hn:=line63;have fin:EP X aa U Q w s:=⟨z,H,I,im,q⟩;by_cases h0:0<=i
 ·have hj:i.toNat=j:=by
   rw[WE h0 h5] at h1;exact QX h1
  exact item_listR pl.isList h0 (by omega) (by rw[hj];simpa using ew) fin hs
 ·have hj:(i+(ac.toArray.size:Int)).toNat=j:=by
   rw[seqIndex_neg (by omega) h4] at h1;rw[o_,←hl];exact QX h1
  exact Vc (x:=w) pl.isList.typeIs Wi.lookup
   (wpAny_getItem_list_neg (Q:=λr s'=>r=w/\EP X aa U Q r s') pl.isList (by omega) (by rw[o_]<;>omega) (by omega) (by rw[hj];simpa using ew) ⟨rfl,fin⟩) hs
theorem Mh:IxR X (rIxT X.K):=by
 intro value cD aa s U H x y v u Q I rx ry h hs;obtain⟨p,xs,i,z,rfl,rfl,hq,he,q⟩:=h;cases rx;obtain⟨t,rfl⟩:=ry;obtain⟨ac,r,pl,hz⟩:=I.tuple hq;obtain⟨j,h1,h2,h3,h4,h5⟩:=GH he;obtain⟨w,ew,im⟩:=r.get h2;have hl:=r.length;have hn:=line63;have fin:EP X aa U Q w s:=⟨z,H,I,im,q⟩
 exact Vc (x:=w) pl.typeIs slot_tuple_getitem.lookup
  (getItem_tuple (j:=j) (Q:=λr s'=>r=w/\EP X aa U Q r s') pl (by omega) (by omega) (by rw[o_,←hl];exact h1) (by simpa using ew) ⟨rfl,fin⟩) hs
theorem LJ(ac:List b_)(n j:Nat)(u:b_):TC (·.setIfInBounds j u) { cls:=.type "list", data:=.seq ac.toArray n }={ cls:=.type "list", data:=.seq (ac.set j u).toArray n }:=by
 simp[TC]
theorem Inv.lst{H:Hp}{s:c_}{p:g_}(I:Inv X aa U H s)(h:H p=some (.lst xs)):
  ∃(ac:List b_) (n:Nat),Vals xs ac/\s.heap.get? p=some { cls:=.type "list", data:=.seq ac.toArray n }/\xs.length<=D_:=by
 obtain⟨z,ac,n,r,e⟩:=I.hok p _ h;exact⟨ac,n,r,e,z⟩
theorem Inv.lstUpd{H:Hp}{s:c_}{p:g_}{ys:List V}{n':Nat}{f:Obj->Obj}(I:Inv X aa U H s)(h:H p=some (.lst xs))(ho:s.heap.get? p=some { cls:=.type "list", data:=.seq ac.toArray n })(hf:f { cls:=.type "list", data:=.seq ac.toArray n }={ cls:=.type "list", data:=.seq its'.toArray n' })(r:Vals ys its')(hz:ys.length<=D_)(t:Nat):
  Inv X aa U (upd H p (.lst ys)) { s with heap:=s.heap.update p f,toks:=t }:=by
 have e:(s.heap.update p f).get? p=some { cls:=.type "list", data:=.seq its'.toArray n' }:=by
  rw[O_ f ho (by rw[hf]<;>rfl),hf]
 refine I.write (x:=p) (e:=p) (by rw[h];trivial) (.inl rfl) (λb u hb q=>(B_ _ _ (QW hb)).trans q) ⟨_,e⟩ ?_;exact⟨hz,its',n',r,e⟩
def rSetL:V->V->V->Hp->(Hp->Prop)->Prop:=λo i v H Q=>∃p xs k j,o=.ref p/\i=.int k/\H p=some (.lst xs)/\ixN xs.length k=some j/\Q (upd H p (.lst (xs.set j v)))
theorem Jo:PSet X rSetL:=by
 intro aa s U H o i v ov iv u Q I ro ri rv h;obtain⟨p,xs,k,j,rfl,rfl,hp,hj,q⟩:=h;cases ro;obtain⟨t,rfl⟩:=ri;obtain⟨ac,n,r,ho,hz⟩:=I.lst hp;obtain⟨h1,h2,h3,h4⟩:=Dc hj;have hl:=r.length;have hn:=line63
 have I':Inv X aa U (upd H p (.lst (xs.set j v))) { s with heap:=s.heap.update p (TC (·.setIfInBounds j u)) }:=
  I.lstUpd hp ho (LJ ac n j u) (r.set rv j) (by rw[Sn];exact hz) s.toks
 by_cases h0:0<=k
 ·have hk:k.toNat=j:=by
   rw[WE h0 h4] at h1;exact QX h1
  exact PySem.W.ki_setAt ho h0 (by omega) (by rw[o_,←hl];exact h4) (by rw[hk];exact⟨_,I',q⟩)
 ·have hk:(k+(ac.toArray.size:Int)).toNat=j:=by
   rw[seqIndex_neg (by omega) h3] at h1;rw[o_,←hl];exact QX h1
  exact PySem.W.ki_setBack ho (by omega) (by rw[o_,←hl];exact h3) (by omega) (by rw[hk];exact⟨_,I',q⟩)
theorem Pc(lo hi:Option Int)(n:Nat):(S' lo hi none n).1=((HT.sIx n 0 lo:Nat):Int)/\(S' lo hi none n).2.1=((HT.sIx n n hi:Nat):Int)/\(S' lo hi none n).2.2=1:=by
 refine⟨?_,?_,rfl⟩
 ·cases lo with
  | none=>simp[S',HT.sIx]
  | some i =>
   simp only[S',HT.sIx,getD_none,show(1:Int) > 0 by decide,if_true];by_cases h:i < 0
   ·simp only[h,if_true]<;>omega
   ·simp only[h,if_false]<;>omega
 ·cases hi with
  | none=>simp[S',HT.sIx]
  | some i =>
   simp only[S',HT.sIx,getD_none,show(1:Int) > 0 by decide,if_true];by_cases h:i < 0
   ·simp only[h,if_true]<;>omega
   ·simp only[h,if_false]<;>omega
theorem IJ(ac:List b_)(lo hi:Option Int):slicePick ac.toArray lo hi none=((ac.drop (HT.sIx ac.length 0 lo)).take (HT.sIx ac.length ac.length hi - HT.sIx ac.length 0 lo)).toArray:=by
 obtain⟨h1,h2,h3⟩:=Pc lo hi ac.toArray.size;unfold slicePick;rw[h1,h2,h3];simp only[sliceRange_one,pick_run,o_]<;>rfl
def rSlL(K:PySem.W.Frag):V->Option Int->Option Int->Hp->VK->Prop:=λx lo hi H Q=>∃a xs,x=.ref a/\SqL K H a xs/\∀p,H p=none->Q (.ref p) (upd H p (.lst (cutV xs lo hi)))
theorem MQ:SlR X (rSlL X.K):=by
 intro aa s U H x v vl vu lo hi sl Q I rx hs pl pu h;obtain⟨a,xs,rfl,hx,q⟩:=h;cases rx;obtain⟨ac,r,ht,hz⟩:=I.list hx;have aR:=r.length;refine⟨"list", _,Wi.lookup,ht.isList.typeIs,?_⟩;refine wpAny_getItem_list_slice ht.isList hs pl pu .none (by simp) ?_ (by rw[o_]<;>omega);rw[IJ,←aR];refine⟨.ref s.heap.objs.size,_,I.laid (t':=s.toks) (o:=.lst (cutV xs lo hi)) (λb ob q=>e_ _ q) (x_ _) ?_,rfl,q _ (I.hok.fresh (x_ _))⟩;exact⟨z_ (GG xs lo hi) hz,_,0,(r.drop (HT.sIx xs.length 0 lo)).take (HT.sIx xs.length xs.length hi - HT.sIx xs.length 0 lo),r_ _ rfl⟩
theorem FB:CallR X (.builtin "len") (λxs H Q=>∃p ys,xs=[.ref p]/\(SqL X.K H p ys\/SqT X.K H p ys)/\Q (.int ys.length) H):=by
 intro aa s U H xs us Q I r h;obtain⟨p,ys,rfl,hq,q⟩:=h;obtain⟨u,rfl,rx⟩:=vals1 r;cases rx;have hn:=line63
 rcases hq with hq | hq
 ·obtain⟨ac,r',pl,hz⟩:=I.list hq;have aR:=r'.length;exact Calls.call_len_list pl.isList (by simp only[o_]<;>omega) ⟨.int ys.length,H,I.tok _,⟨s.toks+1,by rw[o_,aR]⟩,q⟩
 ·obtain⟨ac,r',pl,hz⟩:=I.tuple hq;have aR:=r'.length;exact len_tuple pl (by simp only[o_]<;>omega) ⟨.int ys.length,H,I.tok _,⟨s.toks+1,by rw[o_,aR]⟩,q⟩
theorem IF:CallR X (.type "list") (λxs H Q=>∃p ys,xs=[.ref p]/\(SqL X.K H p ys\/SqT X.K H p ys)/\∀l,H l=none->Q (.ref l) (upd H l (.lst ys))):=by
 intro aa s U H xs us Q I r h;obtain⟨p,ys,rfl,hq,q⟩:=h;obtain⟨u,rfl,rx⟩:=vals1 r;cases rx
 have fin:∀(ac:List b_),Vals ys ac->ys.length<=D_->∀(h':K_) (c':Nat),(∀b o',s.heap.get? b=some o'->h'.get? b=some o') →
   h'.get? s.heap.objs.size=some { cls:=.type "list", dict:=none,data:=.seq ac.toArray c',slots:=#[] }->EP X aa U Q (.ref s.heap.objs.size) { s with heap:=h' }:=λac r' hz h' c' kp e =>
  ⟨.ref s.heap.objs.size,_,I.laid (t':=s.toks) kp (x_ _) (show ObjOk X.prog X.w _ h' _ (.lst ys) from⟨hz,ac,c',r',e⟩),rfl,q _ (I.hok.fresh (x_ _))⟩
 rcases hq with hq | hq
 ·obtain⟨ac,r',pl,hz⟩:=I.list hq;have aR:=r'.length;obtain⟨o,ho,hc,n,hd⟩:=pl.isList;exact call_list_seq p (.inl rfl) ho hc hd (λh' c' kp e=>fin ac r' hz h' c' kp e) (by simp only[o_]<;>omega)
 ·obtain⟨ac,r',pl,hz⟩:=I.tuple hq;have aR:=r'.length;obtain⟨o,ho,hc,n,hd⟩:=pl;exact call_list_seq p (.inr rfl) ho hc hd (λh' c' kp e=>fin ac r' hz h' c' kp e) (by simp only[o_]<;>omega)
theorem Hm:CallR X (.type "tuple") (λxs H Q=>∃p ys,xs=[.ref p]/\((SqL X.K H p ys/\∀l,H l=none->Q (.ref l) (upd H l (.tup ys)))\/(SqT X.K H p ys/\Q (.ref p) H))):=by
 intro aa s U H xs us Q I r h;obtain⟨p,ys,rfl,h⟩:=h;obtain⟨u,rfl,rx⟩:=vals1 r;cases rx
 rcases h with⟨hq,q⟩ | ⟨hq,q⟩
 ·obtain⟨ac,r',pl,hz⟩:=I.list hq;have aR:=r'.length;refine call_tuple_list pl.isList (λh' kp=>?_) (by simp only[o_]<;>omega);have I1:Inv X aa U H { s with heap:=h' }:=I.kept (t':=s.toks) kp
  have I2:Inv X aa U (upd H h'.objs.size (.tup ys)) { s with heap:=h'.push { cls:=.type "tuple", data:=.seq ac.toArray } }:=
   I1.laid (t':=s.toks) (λb o e=>e_ _ e) (x_ _) (show ObjOk X.prog X.w _ _ _ (.tup ys) from⟨hz,ac,r',WO.new _ _⟩)
  exact⟨.ref h'.objs.size,_,I2,rfl,q _ (I1.hok.fresh (x_ _))⟩
 ·obtain⟨ac,r',pl,hz⟩:=I.tuple hq;exact call_tuple_same pl ⟨.ref p,H,I,rfl,q⟩
def tyV(K:PySem.W.Frag)(T:String)(x:V)(H:Hp):Prop:=match x with
 | .str _=>T = "str"
 | .int _=>T = "int"
 | .ref p=>(T = "list"/\∃xs,SqL K H p xs)\/(T = "tuple"/\∃o,K.lookup p=some o/\o.cls=.type "tuple"/\o.dict=none) ∨
   (T = "dict"/\((∃aX,H p=some (.dK aX))\/∃aX,H p=some (.dT aX)))\/(T = "set"/\∃S n,H p=some (.set S n))
 | _=>False
theorem LD{H:Hp}{s:c_}{T:String}{x:V}{v:b_}(I:Inv X aa U H s)(r:RelV x v)(ty:tyV X.K T x H):
  s.TypeIs v T/\∀a,v=.ref a->∃ob,s.heap.get? a=some ob/\ob.dict=none:=by
 cases x with
 | str z =>
  obtain⟨t,rfl⟩:=r
  cases(show T = "str" from ty)
  exact⟨typeIs_str s z t,λ_ e=>nomatch e⟩
 | int i =>
  obtain⟨t,rfl⟩:=r
  cases(show T = "int" from ty)
  exact⟨typeIs_int s i t,λ_ e=>nomatch e⟩
 | ref p =>
  cases r
  rcases ty with⟨rfl,xs,hq⟩ | ⟨rfl,o,hk,hc,hd⟩ | ⟨rfl,hk⟩ | ⟨rfl,S,n,hk⟩
  ·obtain⟨ac,_,pl,_⟩:=I.list hq;refine⟨pl.isList.typeIs,λa e=>?_⟩;cases e;obtain⟨o,n,e,c,hd,_⟩:=pl;exact⟨o,e,hd⟩
  ·refine⟨⟨o,I.kIn p o hk,hc⟩,λa e=>?_⟩;cases e;exact⟨o,I.kIn _ o hk,hd⟩
  ·have z:∃o,s.heap.get? p=some o/\o.ExactDict:=by
    rcases hk with⟨aX,hk⟩ | ⟨aX,hk⟩
    ·obtain⟨_,_,_,_,o,_,_,e,ex,_⟩:=I.hok p _ hk;exact⟨o,e,ex⟩
    ·obtain⟨_,_,_,_,o,_,_,e,ex,_⟩:=I.hok p _ hk;exact⟨o,e,ex⟩
   obtain⟨o,e,ex⟩:=z;refine⟨⟨o,e,ex.1⟩,λa e2=>?_⟩;cases e2;exact⟨o,e,ex.2.1⟩
  ·obtain⟨o,_,_,_,e,ex,_⟩:=I.hok p _ hk;refine⟨⟨o,e,ex.1⟩,λa e2=>?_⟩;cases e2;exact⟨o,e,ex.2.1⟩
 | _=>exact W9 ty
noncomputable def tBM(K:PySem.W.Frag)(T:String)(r:V->List V->Hp->VK->Prop)(to:TE)(t:TA):TE:=λU H Q=>to U H λx H1=>tyV K T x H1/\t U H1 λxs H2=>r x xs H2 Q
variable{o:L_}{es:List L_}{to:TE}{t:TA}{name:Str}{T id:String}{r:V->List V->Hp->VK->Prop}
theorem zZ(pa:PlainAttrs T)(slot:Slot T name id)(qo:VA (.builtin id)=pure (.type "method_descriptor"))(hm:MtR X id r)(ho:PE X o to)(ha:PA X (e::es) t)(bY:Sw o name X.env (eval o X.env)=eval o X.env:=by rfl)(bU:((P_ ay (f_ (e::es) X.env)).all (λx=>!x.1)&&(VB ay (TV [] X.env)).all (λx=>x.1.isSome)
   &&decide ((e::es).length+([]:List Ud).length+(if([]:List Ud).isEmpty then 0 else 1) < 30))=true:=by rfl)(bZ:(aS.endLine == ay.line)=true:=by rfl)(hs:f_ (e::es) X.env=(false,eval e X.env)::f_ es X.env:=by rfl)(bD:(P_ ay (f_ es X.env)).any (·.1)=false:=by rfl):
  PE X (.Call (.Attribute o name aS) (e::es) [] ay) (tBM X.K T r to t):=by
 intro aa s U H Q I h;refine wpAny_Call_method_late bY bU bZ rfl (thn (ho aa s U H _ I h) λv s1 ⟨x,H1,I1,r1,ty,q1⟩=>?_);obtain⟨h1,h2⟩:=LD I1 r1 ty;refine⟨T,id,pa,slot,qo,h1,h2,?_⟩;have hA:=ha ay aa s1 U H1 _ I1 q1;rw[hs] at hA ⊢;refine Vd (by show(false||(P_ ay (f_ es X.env)).any (·.1))=false;rw[bD]<;>rfl) (TX ?_);exact thn hA λus s2 ⟨vs,H2,I2,r2,q2⟩=>hm aa s2 U H2 x vs v us Q I2 r1 r2 q2
end
def MtM(X:Cx)(id:String)(r:V->List V->Hp->VK->Prop):Prop:=
 ∀(aa:List (g_×Obj)) (s:c_) (U:St) (H:Hp) (x:V) (xs:List V) (v:b_) (us:List b_) (Q:VK),Inv X aa U H s->RelV x v->Vals xs us->r x xs H Q →
  m_ (l_ X.prog X.w) X.A (call (.builtin id) (v::us)) (EP X aa U Q) X.xe s
theorem Vals.one:∀{x:V}{us:List b_},Vals [x] us->∃u,us=[u]/\RelV x u
 | _,_,.cons r .nil=>⟨_,rfl,r⟩
theorem Vals.two:∀{x y:V}{us:List b_},Vals [x,y] us->∃u v,us=[u,v]/\RelV x u/\RelV y v
 | _,_,_,.cons r (.cons q .nil)=>⟨_,_,rfl,r,q⟩
section
variable{H:Hp}{s:c_}{b:g_}{ys:List V}
theorem Inv.lset{f:Array b_->Array b_}(I:Inv X aa U H s)(hH:H l=some (.lst xs))(e:s.heap.get? l=some { cls:=.type "list", data:=.seq ac.toArray n })(hf:f ac.toArray=its'.toArray)(hv:Vals ys its')(hz:ys.length<=D_):
  Inv X aa U (upd H l (.lst ys)) { s with heap:=s.heap.update l (TC f),toks:=t' }:=by
 have q:=PySem.IsL.update e f;rw[hf] at q;refine I.write (x:=l) (e:=l) (by rw[hH];exact trivial) (.inl rfl) (λb' u hb hu=>(B_ s.heap (TC f) (QW hb)).trans hu) ⟨_,q⟩ ?_;exact⟨hz,its',_,hv,q⟩
theorem Inv.lnew(I:Inv X aa U H s)(hv:Vals ys ac)(hz:ys.length<=D_):
  Inv X aa U (upd H s.heap.objs.size (.lst ys)) { s with heap:=s.heap.push { cls:=.type "list", data:=.seq ac.toArray },toks:=t' }:=
 I.laid (λ_ _ q=>e_ _ q) (x_ _) ⟨hz,ac,0,hv,r_ _ rfl⟩
theorem Inv.fresh(I:Inv X aa U H s):H s.heap.objs.size=none:=I.hok.fresh (x_ _)
theorem Inv.lstM(I:Inv X aa U H s)(hH:H l=some (.lst xs)):xs.length<=D_/\∃(ac:List b_) (n:Nat),Vals xs ac/\xs.length=ac.length/\s.heap.get? l=some { cls:=.type "list", data:=.seq ac.toArray n }:=by
 obtain⟨z,ac,n,r,e⟩:=I.hok l _ hH;exact⟨z,ac,n,r,r.length,e⟩
theorem notLongL(h:n<=D_):WF n=false:=by
 unfold WF;exact decide_eq_false (by omega)
end
section
def rAppend:V->List V->Hp->VK->Prop:=λx vs H Q=>∃l xs y,x=.ref l/\vs=[y]/\H l=some (.lst xs)/\xs.length < D_/\Q .non (upd H l (.lst (xs++[y])))
theorem FZ:MtM X "list.append" rAppend:=by
 intro aa s U H x vs v us Q I rx rv h;obtain⟨l,xs,y,rfl,rfl,hH,hz,q⟩:=h;cases rx;obtain⟨u,rfl,ru⟩:=rv.one;obtain⟨z,ac,n,r,hl,e⟩:=I.lstM hH;refine V' F.slot_list_append ⟨_,e,rfl⟩ F.entry_list_append (F.args_list_append_2 _ _) (PySem.list_append l ac.toArray n u (by rw[o_];omega)) ⟨e,?_⟩;refine⟨.non,_,I.lset (its':=ac++[u]) hH e (by simp) (r.append (.cons ru .nil)) ?_,rfl,q⟩;rw[QZ,Ts];omega
end
end L2
namespace Att
open PySem PySem.W PySem.Calls PyProof.Rows
theorem OZ{P:Params}:∀(ns:List Int) (vs:List b_),WellAll P h vs (ns.map WData.int)->UD vs ns:=by
 intro ns
 induction ns with
 | nil =>
  intro vs w;rw[List.map_nil] at w;cases w;exact .nil
 | cons n ns ih =>
  intro vs w;rw[Q7] at w;cases w with
  | cons a b =>
   cases a;exact .cons _ _ (ih _ b)
theorem Kk{l:Xa}(hn:l.most=some n){P:Params}(gz:l.row.toRowW.claim.pre args=true)(dY:WellAll P h io args):
  ∃a vs ns,io=[b_.ref a]/\args=[WData.list (ns.map WData.int)]/\h.get? a=some { cls:=.type "list", data:=.seq vs.toArray }/\UD vs ns/\ns.length<=n:=by
 have qp:Xb.hasAll [] args [.list .int]=true:=(pre_splitW gz).1;have hc:l.pre.holds [] { args:=args }=true:=(pre_splitW gz).2;obtain⟨d,r,rfl,h1,h2⟩:=hasAllW_cons qp;obtain rfl:=hasAllW_nil h2;obtain⟨xs,rfl,h3⟩:=hasW_list h1;obtain⟨ns,rfl⟩:=items_int h3
 have aR:ns.length<=n:=by
  unfold Xa.pre at hc
  have h4:(WTm.not (.lt (.lit (.int (n:Int))) (.len (.arg 0)))).holds [] { args:=[.list (ns.map .int)] }=true:=by
   have h4:=(holds_andW hc).1;rw[hn] at h4;exact h4
  have h5:=condW_of h4 (w_not (w_lt w_lit (w_len_list (w_arg rfl))));rw[p_] at h5;refine UY λq=>?_
  have q':(n:Int) < ((ns.length:Nat):Int):=by omega
  first
   | (rw[decide_eq_true q'] at h5;exact absurd h5 (by decide))
   | (simp at h5;omega)
 cases dY with
 | cons w1 w2 =>
  cases w2;cases w1 with
  | list ho ir=>exact⟨_,_,ns,rfl,rfl,ho,OZ ns _ ir,aR⟩
theorem Oj(l:Xa)(args:List WData):l.row.toRowW.claim.post args (.bool true) args=true:=
 postW_of (r:=l.row.toRowW) (X:=(true == true))
  (show Xb.has [] (.bool true) .bool=true by first | rfl | decide | simp[Xb.has,Xb.arms,Xb.armsAll])
  (show(WTm.eq .res (.lit (.bool true))).value [] { args:=args,res:=some (.bool true),after:=args }=some (.bool (true == true)) from w_eq_bool (w_res rfl) w_lit) rfl
theorem Kv{l:Xa}{q:u_}{XP:(Str->Option b_)->K_->Prop}{YP:C_->K_->Prop}{d:DefRec}(hn:l.most=some n)(iu:d.params.defaults=[])(call:∀(w:C_) (s₀ au:c_) (mg mb:Str->Option b_) (fa:g_) (o:Obj) (pm cd bT:b_) (a:g_) (vs:List b_) (ns:List Int),
   Ground q cU [] XP w s₀ mg mb au.heap->YP w au.heap →
   au.heap.get? fa=some o->o.data=.func (docDef d.name d.params d.body d.scope pm cd bT)->au.heap.CodeRec cd d.name->mg d.name=some (.ref fa) →
   au.heap.get? a=some { cls:=.type "list", data:=.seq vs.toArray }->UD vs ns->ns.length<=n->au.gens=#[] →
   RS (l_ l.prog w) VS (.call (.ref fa) ⟨[.ref a],[]⟩) (λr s'=>r=.ok (.ret (.bool true))/\OldK au.heap s'.heap/\s'.os=au.os/\Tf s'.gens) au):
  WalkO q cU XP YP l.row.toRowW d [] (λf vs=>PySem.call f vs):=by
 intro w s₀ au mg mb G uM fa o pm cd bT dV kV ho hd aT hD iw hg args io as gz tM nM dY nN;obtain rfl:dV=.none:=Dflts.none hD iu;obtain rfl:kV=.none:=Dflts.noKw hD;obtain⟨a,vs,ns,rfl,rfl,iy,fJ,aR⟩:=Kk hn gz dY;refine enter_call (R7 (call w s₀ au mg mb fa o pm cd bT a vs ns G uM ho (fd_plain hd) aT iw iy fJ aR hg) λr s' hq=>?_);obtain⟨rfl,h2,h3,h4⟩:=hq;exact⟨.inl ⟨.bool true,.bool true,[],rfl,λ_=>rfl,.bool true,Oj l _,λ_=>⟨List.Pairwise.nil,λ_ hm=>(nomatch hm)⟩⟩,h2,h3,h4⟩
end Att
namespace L2
open PySem PySem.Spec PyProof.Rows
theorem Go:∀{vs:List b_}{ns:List Int},UD vs ns->Vals (ns.map V.int) vs
 | _,_,.nil=>.nil
 | _,_,.cons n t h=>.cons ⟨t,rfl⟩ (Go h)
def Only(H:Hp):Prop:=∀b,H b=none\/∃o xs,H b=some (.frz o (.lst xs))
noncomputable def defArgs(s:Rm):Arguments:=match s with
 | .FunctionDef _ a _ _ _ _ _ _ _ _=>a
 | _=>{ posonlyargs:=[],args:=[],vararg:=none,kwonlyargs:=[],kw_defaults:=[],kwarg:=none,defaults:=[] }
noncomputable def defBody(s:Rm):List Rm:=match s with
 | .FunctionDef _ _ b _ _ _ _ _ _ _=>b
 | _=>[]
noncomputable def defScope(s:Rm):Te:=match s with
 | .FunctionDef _ _ _ _ _ _ sc _ _ _=>sc
 | _=>{ kind:=.function,names:=[],isGenerator:=false,isCoroutine:=false }
noncomputable abbrev CX0:CXT:=λ_ _ _ _ _ _=>False
noncomputable abbrev E0:XK:=λ_ _ _=>False
theorem pass0:Passes CX0 X E0:=λ_ _ _ _ _ _ _ h=>h.elim
structure Fun(K:PySem.W.Frag)(x qual:Str)(st:Rm)(f:g_)(fd:R6):Prop where
 ex:∃(oc:b_) (od:Option g_) (kV bT pm:b_) (an:Option g_) (ak ct:b_) (cM:Array (Option b_)),
  fd=Uc x qual (defArgs st) (defBody st) (defScope st) .none kV bT pm an ak ct/\K.lookup f=some ⟨oc,od,.func fd,cM⟩/\W_ K ak qual=true
 kp:PySem.W.keepIn K (.ref f)=true
section
variable{P:u_}{w:C_}{K:PySem.W.Frag}
theorem Fun.ok{x:Str}{st:Rm}{k:Nat}(F:Fun K x qual st f fd)(S:FnScope N ps (defScope st))(len:∀vs H Q E,sp vs H Q E->vs.length=ps.length)(dG:∀(ak:b_) (A:Rh) (outer:List Env) (s:c_) (H:Hp) (vs:List V) (Q:VK) (E:XK),Room k (A.deeper (SR qual (defScope st) s.heap.objs.size f ak))->sp vs H Q E →
   ∃t,PSs (cxOf CX0 P w K mg base N qual (defScope st) f ak A outer s H E).nox (defBody st) t/\t { nx:=λ_ H'=>Q .non H',rt:=Q } (start N vs) H):FnOk P w K mg base CX0 (k+1) f fd ps sp:=by
 obtain⟨oc,od,kV,bT,pm,an,ak,ct,cM,rfl,lk,aT⟩:=F.ex;refine A4 lk aT S len λA outer s H vs Q E hr dX=>?_
 obtain⟨t,h,q⟩:=dG ak A outer s H vs Q E hr dX;exact⟨t,h.nox,q⟩
theorem Fun.binds{x:Str}{st:Rm}(F:Fun K x qual st f fd)(h:∀(kV bT pm:b_) (an:Option g_) (ak ct:b_) (us:List b_),us.length=ps.length->RL (Uc x qual (defArgs st) (defBody st) (defScope st) .none kV bT pm an ak ct) ⟨us,[]⟩=pure (ps.zip us)):Binds K fd ps []:=by
 obtain⟨oc,od,kV,bT,pm,an,ak,ct,cM,rfl,lk,aT⟩:=F.ex;exact .all (h kV bT pm an ak ct)
theorem Gd{x:Str}{st:Rm}{kV bT ak:b_}(l:K.lookup f=some ⟨oc,od,.func (Uc x qual (defArgs st) (defBody st) (defScope st) .none kV bT pm an ak ct),cM⟩)(c:W_ K ak qual=true)(k:PySem.W.keepIn K (.ref f)=true):Fun K x qual st f (Uc x qual (defArgs st) (defBody st) (defScope st) .none kV bT pm an ak ct):=⟨⟨oc,od,kV,bT,pm,an,ak,ct,cM,rfl,l,c⟩,k⟩
end
section
theorem pv(i:Nat){x:Str}(hN:X.N[i]?=some x:=by rfl)(hv:visB X.env.scope x=true:=by rfl)(hd:(x == ("__debug__":Str))=false:=by decide)(aT:(x == ("__classdict__":Str))=false:=by decide):PE X (.Name x pos) (tVar i):=No hN (visI hv) hd aT
end
theorem iteF{A B:Prop}(h:B):if false=true then A else B:=by
 rw[if_neg i_];exact h
theorem iteT{A B:Prop}(h:A):if true=true then A else B:=by
 rw[if_pos rfl];exact h
def Same(H H':Hp):Prop:=∀b o,H b=some o->H' b=some o
theorem Same.refl(H:Hp):Same H H:=λ_ _ h=>h
theorem Same.trans{H H1:Hp}(a:Same H H1)(b:Same H1 H2):Same H H2:=λc o h=>b c o (a c o h)
theorem Same.free{H:Hp}(e:Same H H')(h:H' l=Option.none):H l=Option.none:=by
 cases q:H l with
 | none=>rfl
 | some o =>
  rw[e l o q] at h;cases h
end L2
set_option maxHeartbeats 4000000
namespace DL
open PySem PySem.Spec PyProof.Rows L2
inductive D where
 | non | bl (b:Bool) | int (i:Int) | str (x:Str) | tup (xs:List D) | lst (xs:List D) | exc (x:Str) (n:Option Int)
noncomputable def clOf(K:PySem.W.Frag)(x:Str):g_:=match PySem.W.nsIn K Q6 x with
 | some (some (.ref C))=>C
 | _=>0
noncomputable def ExO(K:PySem.W.Frag)(a:g_)(x:Str)(d:Option g_):HO:=.ext λh=>∃o vs,h.get? a=some o/\o.cls=.ref (clOf K x)/\o.data=.fields vs/\∀dx,d=some dx->o.dict=some dx
def ExN(I:Hp)(d:Option g_)(n:Option Int):Prop:=∀k,n=some k->∃dx,d=some dx/\I dx=some (.xd [("number", .int k)])
def RdK(K:PySem.W.Frag)(I:Hp)(a:g_)(xs:List V):Prop:=Rd I a (.lst xs)\/∃(ac:List b_) (n:Nat),K.lookup a=some { cls:=.type "list", data:=.seq ac.toArray n }/\Vals xs ac/\ac.length<=D_
theorem RdK.of{K:PySem.W.Frag}{a:g_}(h:I a=some (.lst xs)):RdK K I a xs:=.inl (.inl h)
theorem RdK.sq{K:PySem.W.Frag}{a:g_}(h:RdK K I a xs):SqL K I a xs:=by
 rcases h with h | ⟨ac,n,h1,h2,h3⟩
 ·exact .inl h
 ·exact .inr ⟨_,ac.toArray,n,h1,rfl,rfl,rfl,by simpa using h3,by simpa using h2⟩
mutual
def Is(K:PySem.W.Frag)(I:Hp):D->V->Prop
 | .non,v=>v=.non
 | .bl b,v=>v=.bl b
 | .int i,v=>v=.int i
 | .str x,v=>v=.str x
 | .tup ds,v=>∃a xs,v=.ref a/\SqT K I a xs/\IsA K I ds xs
 | .lst ds,v=>∃a xs,v=.ref a/\RdK K I a xs/\IsA K I ds xs
 | .exc x n,v=>∃a d,v=.ref a/\I a=some (ExO K a x d)/\ExN I d n
def IsA(K:PySem.W.Frag)(I:Hp):List D->List V->Prop
 | [],xs=>xs=[]
 | d::ds,xs=>∃x r,xs=x::r/\Is K I d x/\IsA K I ds r
end
section
variable{K:PySem.W.Frag}{H:Hp}
theorem Same.rd{a:g_}(e:Same I I')(h:Rd I a o):Rd I' a o:=by
 rcases h with h | ⟨u,h⟩
 ·exact .inl (e _ _ h)
 ·exact .inr ⟨u,e _ _ h⟩
theorem Same.rdK{a:g_}(e:Same I I')(h:RdK K I a xs):RdK K I' a xs:=by
 rcases h with h | h
 ·exact .inl (Same.rd e h)
 ·exact .inr h
theorem Same.sqT{a:g_}(e:Same I I')(h:SqT K I a xs):SqT K I' a xs:=by
 rcases h with h | h
 ·exact .inl (Same.rd e h)
 ·exact .inr h
mutual
theorem Is.mono(e:Same I I'):∀{d:D}{v:V},Is K I d v->Is K I' d v
 | .non,_,h=>by rw[Is] at h ⊢;exact h
 | .bl _,_,h=>by rw[Is] at h ⊢;exact h
 | .int _,_,h=>by rw[Is] at h ⊢;exact h
 | .str _,_,h=>by rw[Is] at h ⊢;exact h
 | .tup ds,v,h=>by
  rw[Is] at h ⊢;obtain⟨a,xs,e1,e2,e3⟩:=h;exact⟨a,xs,e1,Same.sqT e e2,IsA.mono e e3⟩
 | .lst ds,v,h=>by
  rw[Is] at h ⊢;obtain⟨a,xs,e1,e2,e3⟩:=h;exact⟨a,xs,e1,Same.rdK e e2,IsA.mono e e3⟩
 | .exc x n,v,h=>by
  rw[Is] at h ⊢;obtain⟨a,d,e1,e2,e3⟩:=h;exact⟨a,d,e1,e _ _ e2,λk z=>let ⟨dx,q1,q2⟩:=e3 k z;⟨dx,q1,e _ _ q2⟩⟩
theorem IsA.mono(e:Same I I'):∀{ds:List D}{xs:List V},IsA K I ds xs->IsA K I' ds xs
 | [],_,h=>by rw[IsA] at h ⊢;exact h
 | d::ds,xs,h=>by
  rw[IsA] at h ⊢;obtain⟨x,r,e1,e2,e3⟩:=h;exact⟨x,r,e1,Is.mono e e2,IsA.mono e e3⟩
end
theorem IsA.nil:IsA K I [] []:=by rw[IsA]
theorem IsA.cons{d:D}{ds:List D}{x:V}(h:Is K I d x)(t:IsA K I ds xs):IsA K I (d::ds) (x::xs):=by
 rw[IsA];exact⟨x,xs,rfl,h,t⟩
theorem IsA.nil_inv(h:IsA K I [] xs):xs=[]:=by rw[IsA] at h;exact h
theorem IsA.cons_inv{d:D}{ds:List D}(h:IsA K I (d::ds) xs):∃x r,xs=x::r/\Is K I d x/\IsA K I ds r:=by rw[IsA] at h;exact h
theorem IsA.length:∀{ds:List D}{xs:List V},IsA K I ds xs->ds.length=xs.length
 | [],xs,h=>by rw[h.nil_inv]<;>rfl
 | d::ds,xs,h=>by
  obtain⟨x,r,rfl,_,t⟩:=h.cons_inv;simp[IsA.length t]
theorem IsA.get:∀{ds:List D}{xs:List V}{i:Nat}{d:D},IsA K I ds xs->ds[i]?=some d->∃x,xs[i]?=some x/\Is K I d x
 | [],xs,i,d,h,e=>by simp at e
 | c::ds,xs,0,d,h,e=>by
  obtain⟨x,r,rfl,hx,t⟩:=h.cons_inv;simp at e;subst e;exact⟨x,rfl,hx⟩
 | c::ds,xs,i+1,d,h,e=>by
  obtain⟨x,r,rfl,hx,t⟩:=h.cons_inv;obtain⟨y,e1,e2⟩:=IsA.get (i:=i) t (by simpa using e);exact⟨y,by simpa using e1,e2⟩
theorem IsA.append:∀{ds es:List D}{xs ys:List V},IsA K I ds xs->IsA K I es ys->IsA K I (ds++es) (xs++ys)
 | [],es,xs,ys,h,t=>by rw[h.nil_inv];exact t
 | d::ds,es,xs,ys,h,t=>by
  obtain⟨x,r,rfl,hx,h'⟩:=h.cons_inv;exact IsA.cons hx (IsA.append h' t)
theorem IsA.take:∀{ds:List D}{xs:List V} (n:Nat),IsA K I ds xs->IsA K I (ds.take n) (xs.take n)
 | ds,xs,0,h=>by rw[List.take_zero,List.take_zero];exact IsA.nil
 | [],xs,n+1,h=>by rw[h.nil_inv];exact IsA.nil
 | d::ds,xs,n+1,h=>by
  obtain⟨x,r,rfl,hx,h'⟩:=h.cons_inv;rw[VU,VU];exact IsA.cons hx (IsA.take n h')
theorem IsA.drop:∀{ds:List D}{xs:List V} (n:Nat),IsA K I ds xs->IsA K I (ds.drop n) (xs.drop n)
 | ds,xs,0,h=>by rw[List.drop_zero,List.drop_zero];exact h
 | [],xs,n+1,h=>by rw[h.nil_inv];exact IsA.nil
 | d::ds,xs,n+1,h=>by
  obtain⟨x,r,rfl,hx,h'⟩:=h.cons_inv;rw[Ut,Ut];exact IsA.drop n h'
theorem IsA.set{d:D}{x:V}(q:Is K I d x):∀{ds:List D}{xs:List V} (n:Nat),IsA K I ds xs->IsA K I (ds.set n d) (xs.set n x)
 | [],xs,n,h=>by rw[h.nil_inv];exact IsA.nil
 | c::ds,xs,0,h=>by
  obtain⟨y,r,rfl,hx,h'⟩:=h.cons_inv;exact IsA.cons q h'
 | c::ds,xs,n+1,h=>by
  obtain⟨y,r,rfl,hx,h'⟩:=h.cons_inv;exact IsA.cons hx (IsA.set q n h')
theorem IsA.one{d:D}(h:IsA K I [d] xs):∃x,xs=[x]/\Is K I d x:=by
 obtain⟨x,r,rfl,hx,t⟩:=h.cons_inv;rw[t.nil_inv];exact⟨x,rfl,hx⟩
theorem IsA.two{d e:D}(h:IsA K I [d,e] xs):∃x y,xs=[x,y]/\Is K I d x/\Is K I e y:=by
 obtain⟨x,r,rfl,hx,t⟩:=h.cons_inv;obtain⟨y,rfl,hy⟩:=t.one;exact⟨x,y,rfl,hx,hy⟩
theorem uZ{i:Int}{v:V}(h:Is K I (.int i) v):v=.int i:=by rw[Is] at h;exact h
theorem vx{i:Bool}{v:V}(h:Is K I (.bl i) v):v=.bl i:=by rw[Is] at h;exact h
theorem vQ{i:Str}{v:V}(h:Is K I (.str i) v):v=.str i:=by rw[Is] at h;exact h
theorem v5{v:V}(h:Is K I .non v):v=.non:=by rw[Is] at h;exact h
theorem u7{ds:List D}{v:V}(h:Is K I (.tup ds) v):∃a xs,v=.ref a/\SqT K I a xs/\IsA K I ds xs:=by rw[Is] at h;exact h
theorem u5{ds:List D}{v:V}(h:Is K I (.lst ds) v):∃a xs,v=.ref a/\RdK K I a xs/\IsA K I ds xs:=by rw[Is] at h;exact h
theorem Aq{x:Str}{n:Option Int}{v:V}(h:Is K I (.exc x n) v):∃a d,v=.ref a/\I a=some (ExO K a x d)/\ExN I d n:=by rw[Is] at h;exact h
theorem Is.exc{x:Str}{n:Option Int}{a:g_}{d:Option g_}(h:I a=some (ExO K a x d))(q:ExN I d n):Is K I (.exc x n) (.ref a):=by rw[Is];exact⟨a,d,rfl,h,q⟩
theorem Is.int(i:Int):Is K I (.int i) (.int i):=by rw[Is]
theorem Is.bl(i:Bool):Is K I (.bl i) (.bl i):=by rw[Is]
theorem Is.str(i:Str):Is K I (.str i) (.str i):=by rw[Is]
theorem Is.non:Is K I .non .non:=by rw[Is]
theorem Is.tup{ds:List D}{a:g_}(h:SqT K I a xs)(t:IsA K I ds xs):Is K I (.tup ds) (.ref a):=by rw[Is];exact⟨a,xs,rfl,h,t⟩
theorem Is.lst{ds:List D}{a:g_}(h:RdK K I a xs)(t:IsA K I ds xs):Is K I (.lst ds) (.ref a):=by rw[Is];exact⟨a,xs,rfl,h,t⟩
end
inductive R where
 | val (d:D) | own (ds:List D) | bor (ds:List D) | fro (ds:List D) | dic (aX:List (Int×D))
noncomputable def R.mut:R->Bool
 | .val _=>false
 | .own _=>true
 | .bor _=>true
 | .fro _=>false
 | .dic _=>false
noncomputable def R.ptr:R->Bool
 | .val _=>false
 | .own _=>true
 | .bor _=>true
 | .fro _=>false
 | .dic _=>true
abbrev Gm:=List (Option R)
def Mt(K:PySem.W.Frag)(G I H:Hp)(ds:List D)(v:V):Prop:=∃p xs,v=.ref p/\H p=some (.lst xs)/\I p=none/\G p=none/\IsA K I ds xs
def IsK(K:PySem.W.Frag)(I:Hp)(aX:List (Int×D))(xs:List (Key×V)):Prop:=xs.map (·.1)=aX.map (λq=>inl q.1)/\IsA K I (aX.map (·.2)) (xs.map (·.2))
theorem IsK.mono{K:PySem.W.Frag}{aX:List (Int×D)}{xs:List (Key×V)}(e:Same I I')(h:IsK K I aX xs):IsK K I' aX xs:=⟨h.1,h.2.mono e⟩
def MtK(K:PySem.W.Frag)(G I H:Hp)(aX:List (Int×D))(v:V):Prop:=∃p xs,v=.ref p/\H p=some (.dK xs)/\I p=none/\G p=none/\IsK K I aX xs
def SlotOk(K:PySem.W.Frag)(G I H:Hp):R->V->Prop
 | .val d,v=>Is K I d v
 | .own ds,v=>Mt K G I H ds v
 | .bor ds,v=>Mt K G I H ds v
 | .fro ds,v=>∃p xs,v=.ref p/\I p=some (.lst xs)/\G p=none/\IsA K I ds xs
 | .dic aX,v=>MtK K G I H aX v
theorem SlotOk.mt{K:PySem.W.Frag}{H:Hp}{r:R}{v:V}(h:SlotOk K G I H r v)(m:r.ptr=true):∃p xs,v=.ref p/\H p=some xs/\I p=none/\G p=none:=by
 cases r with
 | val d=>cases m
 | own ds=>obtain⟨p,xs,e1,e2,e3,e4,_⟩:=h;exact⟨p,_,e1,e2,e3,e4⟩
 | bor ds=>obtain⟨p,xs,e1,e2,e3,e4,_⟩:=h;exact⟨p,_,e1,e2,e3,e4⟩
 | fro ds=>cases m
 | dic ds=>obtain⟨p,xs,e1,e2,e3,e4,_⟩:=h;exact⟨p,_,e1,e2,e3,e4⟩
structure Rep(K:PySem.W.Frag)(B:Nat->Option (Option V))(G I H:Hp)(U:L2.St)(Γ:Gm):Prop where
 iH:Same I H
 gH:Same G H
 len:U.length=Γ.length
 slot:∀(i:Nat) (r:R),Γ[i]?=some (some r)->∃v,U[i]?=some (some v)/\SlotOk K G I H r v
 dist:∀(i j:Nat) (r r':R) (v:V),Γ[i]?=some (some r)->Γ[j]?=some (some r')->r.ptr=true->r'.ptr=true->U[i]?=some (some v)->U[j]?=some (some v)->i=j
 bor:∀(i:Nat) (ds:List D),Γ[i]?=some (some (.bor ds))->U[i]?=B i
structure Grow(G I I':Hp):Prop where
 up:Same I I'
 new:∀b o,I' b=some o->I b=some o\/G b=none
theorem Grow.refl(G I:Hp):Grow G I I:=⟨Same.refl _,λ_ _ h=>.inl h⟩
theorem Grow.trans{I1 I2:Hp}(a:Grow G I I1)(b:Grow G I1 I2):Grow G I I2:=⟨a.up.trans b.up,λc o h=>by
 rcases b.new c o h with h1 | h1
 ·exact a.new c o h1
 ·exact .inr h1⟩
section
variable{K:PySem.W.Frag}{B:Nat->Option (Option V)}{H:Hp}{Γ:Gm}
theorem Rep.ext(r:Rep K B G I H U Γ)(hI:Same I I')(hH:Same H H')(iH:Same I' H')(new:∀b o,I' b=some o->I b=some o\/H b=none):Rep K B G I' H' U Γ where
 iH:=iH
 gH:=r.gH.trans hH
 len:=r.len
 slot:=λi q e=>by
  obtain⟨v,e1,e2⟩:=r.slot i q e;refine⟨v,e1,?_⟩
  have mt:∀ds,Mt K G I H ds v->Mt K G I' H' ds v:=λds h=>by
   obtain⟨p,xs,h1,h2,h3,h4,h5⟩:=h;refine⟨p,xs,h1,hH _ _ h2,?_,h4,h5.mono hI⟩;cases z:I' p with
   | none=>rfl
   | some o =>
    rcases new p o z with z1 | z1
    ·rw[h3] at z1;cases z1
    ·rw[h2] at z1;cases z1
  cases q with
  | val d=>exact Is.mono hI e2
  | dic ds =>
   obtain⟨p,xs,h1,h2,h3,h4,h5⟩:=e2;refine⟨p,xs,h1,hH _ _ h2,?_,h4,h5.mono hI⟩;cases z:I' p with
   | none=>rfl
   | some o =>
    rcases new p o z with z1 | z1
    ·rw[h3] at z1;cases z1
    ·rw[h2] at z1;cases z1
  | own ds=>exact mt ds e2
  | bor ds=>exact mt ds e2
  | fro ds=>obtain⟨p,xs,f1,f2,f3,f4⟩:=e2;exact⟨p,xs,f1,hI _ _ f2,f3,f4.mono hI⟩
 dist:=r.dist
 bor:=r.bor
theorem vq{H:Hp}{p:g_}(h:H p=none)(o:HO):Same H (upd H p o):=λb u q=>by rw[uS (vM q h)];exact q
theorem Di{I H:Hp}{p:g_}(h:Same I H)(o:HO):Same (upd I p o) (upd H p o):=λb u q=>by
 by_cases e:b=p
 ·subst e;rw[u3] at q ⊢;exact q
 ·rw[uS e] at q ⊢;exact h b u q
theorem Rep.iFree(r:Rep K B G I H U Γ){p:g_}(h:H p=none):I p=none:=r.iH.free h
theorem Rep.gFree(r:Rep K B G I H U Γ){p:g_}(h:H p=none):G p=none:=r.gH.free h
theorem Rep.alloc(r:Rep K B G I H U Γ){p:g_}(h:H p=none)(o:HO):Rep K B G (upd I p o) (upd H p o) U Γ:=
 r.ext (vq (r.iFree h) o) (vq h o) (Di r.iH o) λb u q=>by
  by_cases e:b=p
  ·subst e;exact .inr h
  ·rw[uS e] at q;exact .inl q
theorem Rep.growAlloc(r:Rep K B G I H U Γ){p:g_}(h:H p=none)(o:HO):Grow G I (upd I p o):=⟨vq (r.iFree h) o,λb u q=>by
 by_cases e:b=p
 ·subst e;exact .inr (r.gFree h)
 ·rw[uS e] at q;exact .inl q⟩
theorem Rep.fresh(r:Rep K B G I H U Γ){p:g_}(h:H p=none)(o:HO):Rep K B G I (upd H p o) U Γ:=
 r.ext (Same.refl _) (vq h o) (r.iH.trans (vq h o)) λb u q=>.inl q
def Apart(U:L2.St)(Γ:Gm)(p:g_):Prop:=∀(j:Nat) (r:R),Γ[j]?=some (some r)->r.ptr=true->U[j]?≠some (some (.ref p))
theorem Rep.apart(r:Rep K B G I H U Γ){p:g_}(h:H p=none):Apart U Γ p:=λj q e m z=>by
 obtain⟨v,e1,e2⟩:=r.slot j q e;obtain⟨p',xs,h1,h2,_,_⟩:=e2.mt m;rw[e1] at z;subst h1;cases z;rw[h] at h2;cases h2
theorem Rep.freeze(r:Rep K B G I H U Γ){p:g_}(h:H p=some (.lst xs))(hi:I p=none)(a:Apart U Γ p):Rep K B G (upd I p (.lst xs)) H U Γ where
 iH:=λb u q=>by
  by_cases e:b=p
  ·subst e;rw[u3] at q;cases q;exact h
  ·rw[uS e] at q;exact r.iH b u q
 gH:=r.gH
 len:=r.len
 slot:=λi q e=>by
  obtain⟨v,e1,e2⟩:=r.slot i q e;refine⟨v,e1,?_⟩;have up:=vq hi (.lst xs)
  have mt:q.ptr=true->∀ds,Mt K G I H ds v->Mt K G (upd I p (.lst xs)) H ds v:=λm ds h=>by
   obtain⟨p',cb,h1,h2,h3,h4,h5⟩:=h;refine⟨p',cb,h1,h2,?_,h4,h5.mono up⟩;have ne:p'≠p:=λz=>a i q e m (by rw[e1,h1,z])
   rw[uS ne];exact h3
  cases q with
  | val d=>exact Is.mono up e2
  | dic ds =>
   obtain⟨p',cb,h1,h2,h3,h4,h5⟩:=e2;refine⟨p',cb,h1,h2,?_,h4,h5.mono up⟩;have ne:p'≠p:=λz=>a i _ e rfl (by rw[e1,h1,z])
   rw[uS ne];exact h3
  | own ds=>exact mt rfl ds e2
  | bor ds=>exact mt rfl ds e2
  | fro ds=>obtain⟨p,xs,f1,f2,f3,f4⟩:=e2;exact⟨p,xs,f1,up _ _ f2,f3,f4.mono up⟩
 dist:=r.dist
 bor:=r.bor
theorem growFreeze{G I:Hp}{p:g_}(hi:I p=none)(hg:G p=none):Grow G I (upd I p (.lst xs)):=⟨vq hi _,λb u q=>by
 by_cases e:b=p
 ·subst e;exact .inr hg
 ·rw[uS e] at q;exact .inl q⟩
theorem vf{α:Type}{l:List α}{i j:Nat}{a b:α}(h:(l.set i a)[j]?=some b):(j=i/\b=a/\i < l.length)\/(j≠i/\l[j]?=some b):=by
 by_cases e:j=i
 ·subst e;by_cases hl:j < l.length
  ·rw[Sl hl] at h;cases h;exact .inl ⟨rfl,rfl,hl⟩
  ·rw[Tt (by rw[Sn];omega)] at h;cases h
 ·rw[Rf (QW e)] at h;exact .inr ⟨e,h⟩
theorem Rep.forget(r:Rep K B G I H U Γ)(i:Nat):Rep K B G I H U (Γ.set i none) where
 iH:=r.iH
 gH:=r.gH
 len:=by rw[Sn];exact r.len
 slot:=λj q e=>by
  rcases vf e with⟨_,z,_⟩ | ⟨_,z⟩
  ·cases z
  ·exact r.slot j q z
 dist:=λj k q q' v e e'=>by
  rcases vf e with⟨_,z,_⟩ | ⟨_,z⟩
  ·cases z
  rcases vf e' with⟨_,z',_⟩ | ⟨_,z'⟩
  ·cases z'
  exact r.dist j k q q' v z z'
 bor:=λj ds e=>by
  rcases vf e with⟨_,z,_⟩ | ⟨_,z⟩
  ·cases z
  ·exact r.bor j ds z
theorem Rep.learn(r:Rep K B G I H U Γ){i:Nat}{q:R}{v:V}(hv:U[i]?=some (some v))(ok:SlotOk K G I H q v)(ha:q.ptr=true->∀p,v=.ref p->∀(j:Nat) (r:R),j≠i->Γ[j]?=some (some r)->r.ptr=true->U[j]?≠some (some (.ref p)))(hb:∀ds,q=.bor ds->U[i]?=B i):Rep K B G I H U (Γ.set i (some q)) where
 iH:=r.iH
 gH:=r.gH
 len:=by rw[Sn];exact r.len
 slot:=λj q' e=>by
  rcases vf e with⟨rfl,z,_⟩ | ⟨_,z⟩
  ·cases z;exact⟨v,hv,ok⟩
  ·exact r.slot j q' z
 dist:=λj k q1 q2 w e e' m1 m2 s1 s2=>by
  rcases vf e with⟨rfl,z,_⟩ | ⟨n1,z⟩
  ·cases z
   rcases vf e' with⟨rfl,z',_⟩ | ⟨n2,z'⟩
   ·rfl
   ·obtain⟨p,xs,e1,_⟩:=ok.mt m1;rw[hv] at s1;cases s1;exact absurd (e1▸s2) (ha m1 p e1 k q2 n2 z' m2)
  ·rcases vf e' with⟨rfl,z',_⟩ | ⟨n2,z'⟩
   ·cases z';obtain⟨p,xs,e1,_⟩:=ok.mt m2;rw[hv] at s2;cases s2;exact absurd (e1▸s1) (ha m2 p e1 j q1 n1 z m1)
   ·exact r.dist j k q1 q2 w z z' m1 m2 s1 s2
 bor:=λj ds e=>by
  rcases vf e with⟨rfl,z,_⟩ | ⟨_,z⟩
  ·cases z;exact hb ds rfl
  ·exact r.bor j ds z
theorem Rep.store(r:Rep K B G I H U Γ){i:Nat}{q:R}{v:V}(hi:i < U.length)(ok:SlotOk K G I H q v)(ha:q.ptr=true->∀p,v=.ref p->Apart U Γ p)(hb:∀ds,q≠.bor ds):Rep K B G I H (U.set i (some v)) (Γ.set i (some q)):=by
 have r1:Rep K B G I H (U.set i (some v)) (Γ.set i none):={
  iH:=r.iH,gH:=r.gH,len:=by rw[Sn,Sn];exact r.len
  slot:=λj q' e=>by
   rcases vf e with⟨_,z,_⟩ | ⟨n,z⟩
   ·cases z
   ·rw[Rf (QW n)];exact r.slot j q' z
  dist:=λj k q1 q2 w e e' m1 m2 s1 s2=>by
   rcases vf e with⟨_,z,_⟩ | ⟨n1,z⟩
   ·cases z
   rcases vf e' with⟨_,z',_⟩ | ⟨n2,z'⟩
   ·cases z'
   rw[Rf (QW n1)] at s1;rw[Rf (QW n2)] at s2;exact r.dist j k q1 q2 w z z' m1 m2 s1 s2
  bor:=λj ds e=>by
   rcases vf e with⟨_,z,_⟩ | ⟨n,z⟩
   ·cases z
   ·rw[Rf (QW n)];exact r.bor j ds z }
 have r2:=r1.learn (i:=i) (q:=q) (v:=v) (by rw[Sl hi]) ok (λm p e j q' n z m' s=>by
  rcases vf z with⟨_,z',_⟩ | ⟨_,z'⟩
  ·cases z'
  ·rw[Rf (QW n)] at s
   exact ha m p e j q' z' m' s) (λds e=>absurd e (hb ds))
 rw[Xc] at r2;exact r2
theorem Rep.write(r:Rep K B G I H U Γ){i:Nat}{q q':R}{p:g_}{ys:List V}{ds:List D}(hq:Γ[i]?=some (some q))(hm:q.ptr=true)(hs:U[i]?=some (some (.ref p)))(h:H p=some (.lst xs))(iz:q'=.own ds\/(q'=.bor ds/\∃es,q=.bor es))(hd:IsA K I ds ys):
  Rep K B G I (upd H p (.lst ys)) U (Γ.set i (some q')):=by
 obtain⟨v,e1,e2⟩:=r.slot i q hq;obtain⟨p',cb,h1,h2,h3,h4⟩:=e2.mt hm;have hp:p'=p:=by rw[hs] at e1;subst h1;cases e1;rfl
 subst hp;have fK:∀(j:Nat) (r':R),j≠i->Γ[j]?=some (some r')->r'.ptr=true->U[j]?≠some (some (.ref p')):=λj r' n z m s=>n (r.dist j i r' q _ z hq m hm s hs)
 have sI:Same I (upd H p' (.lst ys)):=λb u z=>by
  have ne:b≠p':=λe=>by subst e;rw[h3] at z;cases z
  rw[uS ne];exact r.iH b u z
 have sG:Same G (upd H p' (.lst ys)):=λb u z=>by
  have ne:b≠p':=λe=>by subst e;rw[h4] at z;cases z
  rw[uS ne];exact r.gH b u z
 have r1:Rep K B G I (upd H p' (.lst ys)) U (Γ.set i none):={
  iH:=sI,gH:=sG,len:=by rw[Sn];exact r.len
  slot:=λj q1 e=>by
   rcases vf e with⟨_,z,_⟩ | ⟨n,z⟩
   ·cases z
   obtain⟨w,e3,e4⟩:=r.slot j q1 z;refine⟨w,e3,?_⟩
   have mt:q1.ptr=true->∀ds,Mt K G I H ds w->Mt K G I (upd H p' (.lst ys)) ds w:=λm ds hh=>by
    obtain⟨p2,lD,g1,g2,g3,g4,g5⟩:=hh;refine⟨p2,lD,g1,?_,g3,g4,g5⟩;have ne:p2≠p':=λz2=>fK j q1 n z m (by rw[e3,g1,z2])
    rw[uS ne];exact g2
   cases q1 with
   | val d=>exact e4
   | dic ds =>
    obtain⟨p2,lD,g1,g2,g3,g4,g5⟩:=e4;refine⟨p2,lD,g1,?_,g3,g4,g5⟩;have ne:p2≠p':=λz2=>fK j _ n z rfl (by rw[e3,g1,z2])
    rw[uS ne];exact g2
   | own ds=>exact mt rfl ds e4
   | bor ds=>exact mt rfl ds e4
   | fro ds=>exact e4
  dist:=(r.forget i).dist
  bor:=(r.forget i).bor }
 have nO:Mt K G I (upd H p' (.lst ys)) ds (.ref p'):=⟨p',ys,rfl,u3,h3,h4,hd⟩
 have r2:=r1.learn (i:=i) (q:=q') (v:=.ref p') hs (by rcases iz with rfl | ⟨rfl,_⟩<;>exact nO) (λm p2 e j r' n z m' s=>by
  cases e
  rcases vf z with⟨_,z',_⟩ | ⟨_,z'⟩
  ·cases z'
  ·exact fK j r' n z' m' s) (λes e=>by
  rcases iz with rfl | ⟨rfl,es',rfl⟩
  ·cases e
  ·exact r.bor i es' hq)
 rw[Xc] at r2;exact r2
end
end DL
variable{c ys ds:List DL.D}{d dc:DL.D}{Γ ae Γ1 Γ2:DL.Gm}{F:List DL.D->Option (List DL.D)}{F':DL.D->DL.D->Option DL.D}{rr:DL.R}{rs:List DL.R}{ts:List (List DL.D)}
namespace DL
open PySem PySem.Spec PyProof.Rows L2
noncomputable abbrev M(α:Type):=Gm->Option (α×Gm)
noncomputable def ret{α:Type}(a:α):M α:=λΓ=>some (a,Γ)
noncomputable def bnd{α Y:Type}(m:M α)(f:α->M Y):M Y:=λΓ=>match m Γ with
 | some (a,Γ1)=>f a Γ1
 | none=>none
noncomputable def lft{α:Type}(o:Option α):M α:=λΓ=>match o with
 | some a=>some (a,Γ)
 | none=>none
theorem uP{α Y:Type}{m:M α}{f:α->M Y}{b:Y}(h:bnd m f Γ=some (b,ae)):∃a Γ1,m Γ=some (a,Γ1)/\f a Γ1=some (b,ae):=by
 unfold bnd at h;cases e:m Γ with
 | none=>rw[e] at h;cases h
 | some q=>obtain⟨a,Γ1⟩:=q;rw[e] at h;exact⟨a,Γ1,rfl,h⟩
theorem u6{α:Type}{o:Option α}{a:α}(h:lft o Γ=some (a,ae)):o=some a/\ae=Γ:=by
 unfold lft at h;cases o with
 | none=>cases h
 | some b=>cases h;exact⟨rfl,rfl⟩
section
variable (K:PySem.W.Frag)(B:Nat->Option (Option V))
def KD(G I:Hp)(U:L2.St)(ae:Gm)(d:D)(Q:VK):Prop:=∀v H' I',Rep K B G I' H' U ae->Grow G I I'->Is K I' d v->Q v H'
def KO(G I:Hp)(U:L2.St)(ae:Gm)(ds:List D)(Q:VK):Prop:=∀p xs H' I',Rep K B G I' H' U ae->Grow G I I'->H' p=some (.lst xs)->I' p=none->G p=none->Apart U ae p->IsA K I' ds xs->Q (.ref p) H'
def KT(G I:Hp)(U:L2.St)(ae:Gm)(b:Bool)(Q:Bool->Hp->Prop):Prop:=∀H' I',Rep K B G I' H' U ae->Grow G I I'->Q b H'
def KA(G I:Hp)(U:L2.St)(ae:Gm)(ds:List D)(Q:List V->Hp->Prop):Prop:=∀vs H' I',Rep K B G I' H' U ae->Grow G I I'->IsA K I' ds vs->Q vs H'
noncomputable def tD(g:M D):TE:=λU H Q=>∃G I Γ d ae,Rep K B G I H U Γ/\g Γ=some (d,ae)/\KD K B G I U ae d Q
noncomputable def tO(g:M (List D)):TE:=λU H Q=>∃G I Γ ds ae,Rep K B G I H U Γ/\g Γ=some (ds,ae)/\KO K B G I U ae ds Q
noncomputable def tTD(g:M Bool):TT:=λU H Q=>∃G I Γ b ae,Rep K B G I H U Γ/\g Γ=some (b,ae)/\KT K B G I U ae b Q
noncomputable def tAD(g:M (List D)):TA:=λU H Q=>∃G I Γ ds ae,Rep K B G I H U Γ/\g Γ=some (ds,ae)/\KA K B G I U ae ds Q
end
abbrev BB:=Nat->Option (Option V)
def ED(X:Cx)(B:BB)(e:L_)(g:M D):Prop:=PE X e (tD X.K B g)
def EO(X:Cx)(B:BB)(e:L_)(g:M (List D)):Prop:=PE X e (tO X.K B g)
def TD(X:Cx)(B:BB)(e:L_)(g:M Bool):Prop:=PT X e (tTD X.K B g)
def TW(X:Cx)(B:BB)(e:L_)(g:M Bool):Prop:=PW X e (tTD X.K B g)
def AD(X:Cx)(B:BB)(es:List L_)(g:M (List D)):Prop:=PA X es (tAD X.K B g)
section
theorem PE.imp{t t':TE}(h:PE X e t)(f:∀U H Q,t' U H Q->t U H Q):PE X e t':=λaa s U H Q I q=>h aa s U H Q I (f U H Q q)
theorem PT.imp{t t':TT}(h:PT X e t)(f:∀U H Q,t' U H Q->t U H Q):PT X e t':=λaa s U H Q I q=>h aa s U H Q I (f U H Q q)
theorem PW.imp{t t':TT}(h:PW X e t)(f:∀U H Q,t' U H Q->t U H Q):PW X e t':=λwh aa s U H Q I q=>h wh aa s U H Q I (f U H Q q)
theorem PA.imp{es:List L_}{t t':TA}(h:PA X es t)(f:∀U H Q,t' U H Q->t U H Q):PA X es t':=λpos aa s U H Q I q=>h pos aa s U H Q I (f U H Q q)
end
section
variable{K:PySem.W.Frag}{B:BB}{I1 I2 H H1:Hp}{Q:VK}
theorem KD.now(k:KD K B G I U Γ d Q)(r:Rep K B G I H U Γ){v:V}(h:Is K I d v):Q v H:=k v H I r (Grow.refl _ _) h
theorem KD.after(k:KD K B G I U ae d Q)(g:Grow G I I1):KD K B G I1 U ae d Q:=λv H' I' r g' h=>k v H' I' r (g.trans g') h
theorem KO.after(k:KO K B G I U ae ds Q)(g:Grow G I I1):KO K B G I1 U ae ds Q:=λp xs H' I' r g'=>k p xs H' I' r (g.trans g')
theorem KT.after{b:Bool}{Q:Bool->Hp->Prop}(k:KT K B G I U ae b Q)(g:Grow G I I1):KT K B G I1 U ae b Q:=λH' I' r g'=>k H' I' r (g.trans g')
theorem KD.tup(k:KD K B G I U Γ (.tup ds) Q)(r:Rep K B G I H U Γ){p:g_}(hp:H p=none)(h:IsA K I ds xs):Q (.ref p) (upd H p (.tup xs)):=
 k _ _ _ (r.alloc hp _) (r.growAlloc hp _) (Is.tup (SqT.of u3) (h.mono (vq (r.iFree hp) _)))
theorem KO.new(k:KO K B G I U Γ ds Q)(r:Rep K B G I H U Γ){p:g_}(hp:H p=none)(h:IsA K I ds xs):Q (.ref p) (upd H p (.lst xs)):=
 k p xs _ I (r.fresh hp _) (Grow.refl _ _) u3 (r.iFree hp) (r.gFree hp) (r.apart hp) h
end
section
variable{B:BB}{a b c:L_}{es:List L_}{ga gb gc:M D}
noncomputable def frz(g:M (List D)):M D:=bnd g λds=>ret (.lst ds)
theorem uR{g:M (List D)}(h:EO X B e g):ED X B e (frz g):=PE.imp h λU H Q q=>by
 obtain⟨G,I,Γ,d,ae,r,e1,k⟩:=q;obtain⟨ds,Γ1,e2,e3⟩:=uP e1;cases e3;refine⟨G,I,Γ,ds,_,r,e2,λp xs H' I' r' g h1 h2 h3 h4 h5=>?_⟩;exact k _ _ _ (r'.freeze h1 h2 h4) (g.trans (growFreeze h2 h3)) (Is.lst (RdK.of u3) (h5.mono (vq h2 _)))
noncomputable def nm(i:Nat):M D:=λΓ=>match Γ[i]? with
 | some (some (.val d))=>some (d,Γ)
 | some (some (.own ds))=>some (.lst ds,Γ.set i (some (.val (.lst ds))))
 | some (some (.fro ds))=>some (.lst ds,Γ)
 | _=>none
theorem zg{i:Nat}{x:Str}(h:PE X (.Name x pos) (tVar i)):ED X B (.Name x pos) (nm i):=PE.imp h λU H Q q=>by
 obtain⟨G,I,Γ,d,ae,r,e1,k⟩:=q;unfold nm at e1;cases e:Γ[i]? with
 | none=>rw[e] at e1;cases e1
 | some o =>
  cases o with
  | none=>rw[e] at e1;cases e1
  | some q =>
   obtain⟨v,h1,h2⟩:=r.slot i q e;cases q with
   | val d'=>rw[e] at e1;cases e1;exact⟨v,h1,k.now r h2⟩
   | bor ds=>rw[e] at e1;cases e1
   | dic ds=>rw[e] at e1;cases e1
   | fro ds=>rw[e] at e1;cases e1;obtain⟨p,xs,rfl,f1,f2,f3⟩:=h2;exact⟨_,h1,k.now r (Is.lst (RdK.of f1) f3)⟩
   | own ds =>
    rw[e] at e1;cases e1;obtain⟨p,xs,rfl,g1,g2,g3,g4⟩:=h2;refine⟨_,h1,k _ _ (upd I p (.lst xs)) ?_ (growFreeze g2 g3) (Is.lst (RdK.of u3) (g4.mono (vq g2 _)))⟩
    have ap:Apart U (Γ.set i none) p:=λj q' z m s=>by
     rcases vf z with⟨_,z',_⟩ | ⟨n,z'⟩
     ·cases z'
     ·exact n (r.dist j i q' (.own ds) _ z' e m rfl s h1)
    have r1:=(r.forget i).freeze g1 g2 ap;have r2:=r1.learn (i:=i) (q:=.val (.lst ds)) h1 (Is.lst (RdK.of u3) (g4.mono (vq g2 _))) (λm=>nomatch m) (λ_ z=>nomatch z);rw[Xc] at r2;exact r2
theorem ed_c{v:V}(h:PE X e (tC v))(hd:∀I,Is X.K I d v):ED X B e (ret d):=PE.imp h λU H Q q=>by
 obtain⟨G,I,Γ,d',ae,r,e1,k⟩:=q;cases e1;exact k.now r (hd I)
theorem tx{i j}:ED X B (.Constant (.int i) j pos) (ret (.int i)):=ed_c MD λ_=>Is.int i
theorem wb{b j}:ED X B (.Constant (.bool b) j pos) (ret (.bl b)):=ed_c Hl λ_=>Is.bl b
theorem wf{j}:ED X B (.Constant .none j pos) (ret .non):=ed_c ME λ_=>Is.non
theorem va{x j}:ED X B (.Constant (.str x) j pos) (ret (.str x)):=ed_c NN λ_=>Is.str x
noncomputable def nilA:M (List D):=ret []
noncomputable def consA(g:M D)(t:M (List D)):M (List D):=bnd g λd=>bnd t λds=>ret (d::ds)
theorem nH:AD X B [] nilA:=PA.imp wO λU H Q q=>by
 obtain⟨G,I,Γ,d,ae,r,e1,k⟩:=q;cases e1;exact k _ _ _ r (Grow.refl _ _) IsA.nil
theorem Mc{g:M D}{t:M (List D)}(ha:ED X B e g)(hr:AD X B es t)(hs:f_ (e::es) X.env=(false,eval e X.env)::f_ es X.env:=by rfl):AD X B (e::es) (consA g t):=
 PA.imp (vI ha hr hs) λU H Q q=>by
  obtain⟨G,I,Γ,d,ae,r,e1,k⟩:=q;obtain⟨d1,Γ1,e2,e3⟩:=uP e1;obtain⟨d2,Γ2,e4,e5⟩:=uP e3;cases e5;exact⟨G,I,Γ,d1,Γ1,r,e2,λv H1 I1 r1 g1 h1=>⟨G,I1,Γ1,d2,_,r1,e4,λvs H2 I2 r2 g2 h2=>k _ _ _ r2 (g1.trans g2) (IsA.cons (h1.mono g2.up) h2)⟩⟩
noncomputable def lim:Nat:=1000000
theorem xh(h:n<=lim):n<=D_:=z_ h (by rw[Rz];decide)
noncomputable def tupA(t:M (List D)):M D:=bnd t λds=>lft (if ds.length<=lim then some (.tup ds) else none)
noncomputable def lstA(t:M (List D)):M (List D):=bnd t λds=>lft (if ds.length<=lim then some ds else none)
theorem ve{α:Type}{c:Prop}[Decidable c]{a b:α}(h:(if c then some a else none)=some b):c/\b=a:=by
 by_cases hc:c
 ·rw[if_pos hc] at h;exact⟨hc,(QX h).symm⟩
 ·rw[if_neg hc] at h;cases h
theorem u4{x1}{t:M (List D)}(h:AD X B es t):ED X B (.Tuple es x1 pos) (tupA t):=PE.imp (N6 h) λU H Q q=>by
 obtain⟨G,I,Γ,d,ae,r,e1,k⟩:=q;obtain⟨d1,Γ1,e2,e3⟩:=uP e1;obtain⟨e4,rfl⟩:=u6 e3;obtain⟨hl,rfl⟩:=ve e4;refine⟨G,I,Γ,d1,_,r,e2,λvs H1 I1 r1 g1 h1=>⟨?_,λp hp=>(k.after g1).tup r1 hp h1⟩⟩;rw[←h1.length];exact xh hl
theorem uX{t:M (List D)}(h:AD X B es t):EO X B (.List es pos) (lstA t):=PE.imp (MB h) λU H Q q=>by
 obtain⟨G,I,Γ,d,ae,r,e1,k⟩:=q;obtain⟨d1,Γ1,e2,e3⟩:=uP e1;obtain⟨e4,rfl⟩:=u6 e3;obtain⟨hl,rfl⟩:=ve e4;refine⟨G,I,Γ,_,_,r,e2,λvs H1 I1 r1 g1 h1=>⟨?_,λp hp=>(k.after g1).new r1 hp h1⟩⟩;rw[←h1.length];exact xh hl
def OpD(K:PySem.W.Frag)(r:R2)(F:D->D->Option D):Prop:=∀a b d,F a b=some d->∀(B:BB) (G I H:Hp) (U:L2.St) (Γ:Gm) (x y:V) (Q:VK),Rep K B G I H U Γ->Is K I a x->Is K I b y->KD K B G I U Γ d Q->r x y H Q
def OpO(K:PySem.W.Frag)(r:R2)(F:D->D->Option (List D)):Prop:=∀a b d,F a b=some d->∀(B:BB) (G I H:Hp) (U:L2.St) (Γ:Gm) (x y:V) (Q:VK),Rep K B G I H U Γ->Is K I a x->Is K I b y->KO K B G I U Γ d Q->r x y H Q
def CallD(K:PySem.W.Frag)(r:List V->Hp->VK->Prop)(F:List D->Option D):Prop:=∀ds d,F ds=some d->∀(B:BB) (G I H:Hp) (U:L2.St) (Γ:Gm) (xs:List V) (Q:VK),Rep K B G I H U Γ->IsA K I ds xs->KD K B G I U Γ d Q->r xs H Q
def CallO(K:PySem.W.Frag)(r:List V->Hp->VK->Prop)(F:List D->Option (List D)):Prop:=∀ds d,F ds=some d->∀(B:BB) (G I H:Hp) (U:L2.St) (Γ:Gm) (xs:List V) (Q:VK),Rep K B G I H U Γ->IsA K I ds xs->KO K B G I U Γ d Q->r xs H Q
noncomputable def op2{α:Type}(F:D->D->Option α)(ga gb:M D):M α:=bnd ga λx=>bnd gb λy=>lft (F x y)
noncomputable def fn1{α:Type}(F:List D->Option α)(t:M (List D)):M α:=bnd t λds=>lft (F ds)
theorem t_op{r:R2}{F:D->D->Option D}{K:PySem.W.Frag}(h:OpD K r F):∀U H Q,tD K B (op2 F ga gb) U H Q->tOp r (tD K B ga) (tD K B gb) U H Q:=λU H Q q=>by
 obtain⟨G,I,Γ,d,ae,r,e1,k⟩:=q;obtain⟨d1,Γ1,e2,e3⟩:=uP e1;obtain⟨d2,Γ2,e4,e5⟩:=uP e3;obtain⟨e6,rfl⟩:=u6 e5;exact⟨G,I,Γ,d1,Γ1,r,e2,λv H1 I1 r1 g1 h1=>⟨G,I1,Γ1,d2,_,r1,e4,λw H2 I2 r2 g2 h2=>h _ _ _ e6 B G I2 H2 U _ v w Q r2 (h1.mono g2.up) h2 (k.after (g1.trans g2))⟩⟩
theorem IS{r:R2}{F:D->D->Option (List D)}{K:PySem.W.Frag}(h:OpO K r F):∀U H Q,tO K B (op2 F ga gb) U H Q->tOp r (tD K B ga) (tD K B gb) U H Q:=λU H Q q=>by
 obtain⟨G,I,Γ,d,ae,r,e1,k⟩:=q;obtain⟨d1,Γ1,e2,e3⟩:=uP e1;obtain⟨d2,Γ2,e4,e5⟩:=uP e3;obtain⟨e6,rfl⟩:=u6 e5;exact⟨G,I,Γ,d1,Γ1,r,e2,λv H1 I1 r1 g1 h1=>⟨G,I1,Γ1,d2,_,r1,e4,λw H2 I2 r2 g2 h2=>h _ _ _ e6 B G I2 H2 U _ v w Q r2 (h1.mono g2.up) h2 (k.after (g1.trans g2))⟩⟩
theorem wW{op:Operator}{r:R2}{F:D->D->Option D}(ho:OpR X (R5 op) r)(h:OpD X.K r F)(ha:ED X B a ga)(hb:ED X B b gb):ED X B (.BinOp a op b pos) (op2 F ga gb):=PE.imp (Dw ho ha hb) (t_op h)
theorem MY{op:Operator}{r:R2}{F:D->D->Option (List D)}(ho:OpR X (R5 op) r)(h:OpO X.K r F)(ha:ED X B a ga)(hb:ED X B b gb):EO X B (.BinOp a op b pos) (op2 F ga gb):=PE.imp (Dw ho ha hb) (IS h)
theorem Ai{r:R2}{F:D->D->Option D}(ho:OpR X (Rq op) r)(h:OpD X.K r F)(ha:ED X B a ga)(hb:ED X B b gb)(hm:Sv op b=false):ED X B (.Compare a [op] [b] pos) (op2 F ga gb):=PE.imp (IT ho ha hb hm) (t_op h)
theorem Ny{r:R2}{F:D->D->Option D}(ho:IxR X r)(h:OpD X.K r F)(ha:ED X B a ga)(hb:ED X B b gb)(hs:PlainIx b:=by exact λ_ _=>rfl):ED X B (.Subscript a b pos) (op2 F ga gb):=PE.imp (G8 ho ha hb hs) (t_op h)
noncomputable def asB(d:D):Option Bool:=match d with
 | .bl b=>some b
 | _=>none
theorem BO{b:Bool}(h:asB d=some b):d=.bl b:=by
 cases d<;>simp[asB] at h
 rw[h]
noncomputable def tst(g:M D):M Bool:=bnd g λd=>lft (asB d)
theorem zf{K:PySem.W.Frag}{g:M D}{t:TE}(ht:∀U H Q,tD K B g U H Q->t U H Q):∀U H Q,tTD K B (tst g) U H Q->tTest t U H Q:=λU H Q q=>by
 obtain⟨G,I,Γ,d,ae,r,e1,k⟩:=q;obtain⟨d1,Γ1,e2,e3⟩:=uP e1;obtain⟨e4,rfl⟩:=u6 e3;have:=BO e4;subst this;exact ht _ _ _ ⟨G,I,Γ,_,_,r,e2,λv H1 I1 r1 g1 h1=>⟨d,vx h1,k _ _ r1 g1⟩⟩
theorem wF{r:R2}{F:D->D->Option D}(ho:OpR X (Rq op) r)(h:OpD X.K r F)(ha:ED X B a ga)(hb:ED X B b gb)(hm:Sv op b=false):TD X B (.Compare a [op] [b] pos) (tst (op2 F ga gb)):=PT.imp (Gj ho ha hb hm) (zf (t_op h))
theorem yf(ha:ED X B a ga)(he:∀bX,WP a X.env bX=(do let v ←bX;WL a.pos;SE [v] (truthy v)):=by intros;rfl):TD X B a (tst ga):=PT.imp (Np ha he) (zf λ_ _ _ z=>z)
noncomputable def chn(F F':D->D->Option D)(ga gb gc:M D):M D:=bnd ga λx=>bnd gb λy=>bnd (lft (F x y)) λz=>bnd (lft (asB z)) λk=>if k then bnd gc λw=>lft (F' y w) else ret (.bl false)
theorem Dx{r r':R2}{F:D->D->Option D}{K:PySem.W.Frag}(h:OpD K r F)(h':OpD K r' F'):∀U H Q,tD K B (chn F F' ga gb gc) U H Q->tChain r r' (tD K B ga) (tD K B gb) (tD K B gc) U H Q:=λU H Q q=>by
 obtain⟨G,I,Γ,d,ae,r,e1,k⟩:=q;obtain⟨d1,Γ1,e2,e3⟩:=uP e1;obtain⟨d2,Γ2,e4,e5⟩:=uP e3;obtain⟨d3,aI,e6,e7⟩:=uP e5;obtain⟨e8,rfl⟩:=u6 e6;obtain⟨k1,aJ,e9,f1⟩:=uP e7;obtain⟨f2,rfl⟩:=u6 e9;have:=BO f2;subst this;refine⟨G,I,Γ,d1,Γ1,r,e2,λv H1 I1 r1 g1 h1=>⟨G,I1,Γ1,d2,aJ,r1,e4,λw H2 I2 r2 g2 h2=>h _ _ _ e8 B G I2 H2 U aJ v w _ r2 (h1.mono g2.up) h2 λu H3 I3 r3 g3 h3=>⟨k1,vx h3,?_⟩⟩⟩;cases k1 with
 | false=>cases f1;exact iteF (k _ _ _ r3 (g1.trans (g2.trans g3)) (Is.bl false))
 | true =>
  obtain⟨d4,fj,f3,f4⟩:=uP f1;obtain⟨f5,rfl⟩:=u6 f4;exact iteT ⟨G,I3,aJ,d4,_,r3,f3,λz H4 I4 r4 g4 h4=>h' _ _ _ f5 B G I4 H4 U _ w z Q r4 (h2.mono (g3.trans g4).up) h4 (k.after (g1.trans (g2.trans (g3.trans g4))))⟩
theorem Do{r r':R2}{F:D->D->Option D}(ho:OpR X (Rq op) r)(h:OpD X.K r F)(cz:OpR X (Rq cC) r')(h':OpD X.K r' F')(ha:ED X B a ga)(hb:ED X B b gb)(hc:ED X B c gc)(hm:Uo [op,cC] [b,c]=false:=by with_unfolding_all rfl):ED X B (.Compare a [op,cC] [b,c] pos) (chn F F' ga gb gc):=PE.imp (Ja ho cz ha hb hc hm) (Dx h h')
theorem HS{r r':R2}{F:D->D->Option D}(ho:OpR X (Rq op) r)(h:OpD X.K r F)(cz:OpR X (Rq cC) r')(h':OpD X.K r' F')(ha:ED X B a ga)(hb:ED X B b gb)(hc:ED X B c gc)(hm:Uo [op,cC] [b,c]=false:=by with_unfolding_all rfl):TD X B (.Compare a [op,cC] [b,c] pos) (tst (chn F F' ga gb gc)):=PT.imp (HK ho cz ha hb hc hm) (zf (Dx h h'))
noncomputable def andT(a b:M Bool):M Bool:=bnd a λk=>if k then b else ret false
noncomputable def orT(a b:M Bool):M Bool:=bnd a λk=>if k then ret true else b
noncomputable def notT(a:M Bool):M Bool:=bnd a λk=>ret (!k)
noncomputable def andV(a b:M D):M D:=bnd a λd=>bnd (lft (asB d)) λk=>if k then b else ret (.bl false)
noncomputable def ifV(c:M Bool)(a b:M D):M D:=bnd c λk=>if k then a else b
variable{ta tb:M Bool}
theorem Ge(ha:TD X B a ta):TW X B (.BoolOp .And [a] pos) ta:=K7 ha
theorem xO(ha:TD X B a ta):TW X B (.BoolOp .Or [a] pos) ta:=NG ha
theorem Hf(ha:TD X B a ta)(hb:TW X B (.BoolOp .And (b::aA) pos) tb):TW X B (.BoolOp .And (a::b::aA) pos) (andT ta tb):=PW.imp (KR ha hb) λU H Q q=>by
 obtain⟨G,I,Γ,d,ae,r,e1,k⟩:=q;obtain⟨d1,Γ1,e2,e3⟩:=uP e1;refine⟨G,I,Γ,d1,Γ1,r,e2,λH1 I1 r1 g1=>?_⟩;cases d1 with
 | true=>exact iteT ⟨G,I1,Γ1,d,ae,r1,e3,k.after g1⟩
 | false=>cases e3;exact iteF (k _ _ r1 g1)
theorem xm(ha:TD X B a ta)(hb:TW X B (.BoolOp .Or (b::aA) pos) tb):TW X B (.BoolOp .Or (a::b::aA) pos) (orT ta tb):=PW.imp (Ma ha hb) λU H Q q=>by
 obtain⟨G,I,Γ,d,ae,r,e1,k⟩:=q;obtain⟨d1,Γ1,e2,e3⟩:=uP e1;refine⟨G,I,Γ,d1,Γ1,r,e2,λH1 I1 r1 g1=>?_⟩;cases d1 with
 | false=>exact iteF ⟨G,I1,Γ1,d,ae,r1,e3,k.after g1⟩
 | true=>cases e3;exact iteT (k _ _ r1 g1)
theorem TW.td(h:TW X B e ta):TD X B e ta:=h _
theorem yG(ha:TD X B a ta):TD X B (.UnaryOp .Not a pos) (notT ta):=PT.imp (MT ha) λU H Q q=>by
 obtain⟨G,I,Γ,d,ae,r,e1,k⟩:=q;obtain⟨d1,Γ1,e2,e3⟩:=uP e1;cases e3;exact⟨G,I,Γ,d1,_,r,e2,λH1 I1 r1 g1=>k _ _ r1 g1⟩
theorem xQ{op}(h:ED X B a ga):ED X B (.BoolOp op [a] pos) ga:=Mm h
theorem xC(ha:ED X B a ga)(hb:ED X B (.BoolOp .And (b::aA) pos) gb):ED X B (.BoolOp .And (a::b::aA) pos) (andV ga gb):=PE.imp (Jv ha hb) λU H Q q=>by
 obtain⟨G,I,Γ,d,ae,r,e1,k⟩:=q;obtain⟨d1,Γ1,e2,e3⟩:=uP e1;obtain⟨k1,Γ2,e4,e5⟩:=uP e3;obtain⟨e6,rfl⟩:=u6 e4;have:=BO e6;subst this;refine⟨G,I,Γ,_,_,r,e2,λv H1 I1 r1 g1 h1=>⟨k1,vx h1,?_⟩⟩;cases k1 with
 | true=>exact iteT ⟨G,I1,_,d,ae,r1,e5,k.after g1⟩
 | false=>cases e5;exact iteF (k _ _ _ r1 g1 (Is.bl false))
theorem ET(hc:TD X B c ta)(ha:ED X B a ga)(hb:ED X B b gb):ED X B (.IfExp c a b pos) (ifV ta ga gb):=PE.imp (L9 hc ha hb) λU H Q q=>by
 obtain⟨G,I,Γ,d,ae,r,e1,k⟩:=q;obtain⟨d1,Γ1,e2,e3⟩:=uP e1;refine⟨G,I,Γ,d1,Γ1,r,e2,λH1 I1 r1 g1=>?_⟩;cases d1 with
 | true=>exact iteT ⟨G,I1,Γ1,d,ae,r1,e3,k.after g1⟩
 | false=>exact iteF ⟨G,I1,Γ1,d,ae,r1,e3,k.after g1⟩
variable {x:Str}{p:Pos}{id T:String}{r:List V->Hp->VK->Prop}{t:M (List D)}
theorem t_fn{F:List D->Option D}{K:PySem.W.Frag}(h:CallD K r F):∀U H Q,tD K B (fn1 F t) U H Q->tCB r (tAD K B t) U H Q:=λU H Q q=>by
 obtain⟨G,I,Γ,d,ae,r,e1,k⟩:=q;obtain⟨d1,Γ1,e2,e3⟩:=uP e1;obtain⟨e4,rfl⟩:=u6 e3;exact⟨G,I,Γ,d1,_,r,e2,λvs H1 I1 r1 g1 h1=>h _ _ e4 B G I1 H1 U _ vs Q r1 h1 (k.after g1)⟩
theorem CB{K:PySem.W.Frag}(h:CallO K r F):∀U H Q,tO K B (fn1 F t) U H Q->tCB r (tAD K B t) U H Q:=λU H Q q=>by
 obtain⟨G,I,Γ,d,ae,r,e1,k⟩:=q;obtain⟨d1,Γ1,e2,e3⟩:=uP e1;obtain⟨e4,rfl⟩:=u6 e3;exact⟨G,I,Γ,d1,_,r,e2,λvs H1 I1 r1 g1 h1=>h _ _ e4 B G I1 H1 U _ vs Q r1 h1 (k.after g1)⟩
theorem wB{F:List D->Option D}(hc:CallR X (.builtin id) r)(h:CallD X.K r F)(hg:Gl X x)(hm:X.mg x=none)(hv:RU x=some (.builtin id))(ha:AD X B (e::es) t)(hn:x ≠ "__name__":=by decide)(bi:(x == ("__debug__":Str))=false:=by decide)(he:f_ (e::es) X.env=(false,eval e X.env)::f_ es X.env:=by rfl)(aB:(P_ pos (f_ es X.env)).any (·.1)=false:=by rfl):ED X B (.Call (.Name x p) (e::es) [] pos) (fn1 F t):=PE.imp (yC hc hg hm hv ha hn bi he aB) (t_fn h)
theorem Il(hc:CallR X (.builtin id) r)(h:CallO X.K r F)(hg:Gl X x)(hm:X.mg x=none)(hv:RU x=some (.builtin id))(ha:AD X B (e::es) t)(hn:x ≠ "__name__":=by decide)(bi:(x == ("__debug__":Str))=false:=by decide)(he:f_ (e::es) X.env=(false,eval e X.env)::f_ es X.env:=by rfl)(aB:(P_ pos (f_ es X.env)).any (·.1)=false:=by rfl):EO X B (.Call (.Name x p) (e::es) [] pos) (fn1 F t):=PE.imp (yC hc hg hm hv ha hn bi he aB) (CB h)
theorem LZ{F:List D->Option D}(hc:CallR X (.type T) r)(h:CallD X.K r F)(hg:Gl X x)(hm:X.mg x=none)(hv:RU x=some (.type T))(ha:AD X B (e::es) t)(hn:x ≠ "__name__":=by decide)(bi:(x == ("__debug__":Str))=false:=by decide)(he:f_ (e::es) X.env=(false,eval e X.env)::f_ es X.env:=by rfl)(aB:(P_ pos (f_ es X.env)).any (·.1)=false:=by rfl):ED X B (.Call (.Name x p) (e::es) [] pos) (fn1 F t):=PE.imp (E9 hc hg hm hv ha hn bi he aB) (t_fn h)
theorem O4(hc:CallR X (.type T) r)(h:CallO X.K r F)(hg:Gl X x)(hm:X.mg x=none)(hv:RU x=some (.type T))(ha:AD X B (e::es) t)(hn:x ≠ "__name__":=by decide)(bi:(x == ("__debug__":Str))=false:=by decide)(he:f_ (e::es) X.env=(false,eval e X.env)::f_ es X.env:=by rfl)(aB:(P_ pos (f_ es X.env)).any (·.1)=false:=by rfl):EO X B (.Call (.Name x p) (e::es) [] pos) (fn1 F t):=PE.imp (E9 hc hg hm hv ha hn bi he aB) (CB h)
end
inductive Fl where
 | nx | rt (r:R) | bk | ct
def ResOk(K:PySem.W.Frag)(G I H:Hp)(U:L2.St)(Γ:Gm):R->V->Prop
 | .val d,v=>Is K I d v
 | .own ds,v=>∃p xs,v=.ref p/\H p=some (.lst xs)/\I p=none/\G p=none/\Apart U Γ p/\IsA K I ds xs
 | .bor _,_=>False
 | .fro ds,v=>∃p xs,v=.ref p/\I p=some (.lst xs)/\G p=none/\IsA K I ds xs
 | .dic aX,v=>∃p xs,v=.ref p/\H p=some (.dK xs)/\I p=none/\G p=none/\Apart U Γ p/\IsK K I aX xs
def EndAt(K:PySem.W.Frag)(G I H:Hp)(U:L2.St)(Γ:Gm)(E:Ends):Fl->Prop
 | .nx=>E.nx U H
 | .bk=>E.bk U H
 | .ct=>E.ct U H
 | .rt r=>∀v,ResOk K G I H U Γ r v->E.rt v H
section
variable (K:PySem.W.Frag)(B:BB)
def KS(G I:Hp)(ae:Gm)(f:Fl)(E:Ends):Prop:=∀ai H' I',Rep K B G I' H' ai ae->Grow G I I'->EndAt K G I' H' ai ae E f
noncomputable def tS(g:M Fl):TS:=λE U H=>∃G I Γ f ae,Rep K B G I H U Γ/\g Γ=some (f,ae)/\KS K B G I ae f E
def KG(m:Nat)(U:L2.St)(G I:Hp)(ae:Gm)(Q:L2.St->Hp->Prop):Prop:=∀ai H' I',Rep K B G I' H' ai ae->Grow G I I'->ai.drop m=U.drop m->Q ai H'
noncomputable def tGD(m:Nat)(f:D->M Unit):TG:=λv U H Q=>∃G I Γ d ae,Rep K B G I H U Γ/\Is K I d v/\f d Γ=some ((),ae)/\KG K B m U G I ae Q
noncomputable def tGs(m:Nat)(f:List D->M Unit):TGs:=λvs U H Q=>∃G I Γ ds ae,Rep K B G I H U Γ/\IsA K I ds vs/\f ds Γ=some ((),ae)/\KG K B m U G I ae Q
end
def SD(X:Cx)(B:BB)(st:Rm)(g:M Fl):Prop:=PS X st (tS X.K B g)
def SDs(X:Cx)(B:BB)(st:List Rm)(g:M Fl):Prop:=PSs X st (tS X.K B g)
def GD(X:Cx)(B:BB)(m:Nat)(tg:L_)(f:D->M Unit):Prop:=PG X tg (tGD X.K B m f)
def GDs(X:Cx)(B:BB)(m:Nat)(jH:List L_)(f:List D->M Unit):Prop:=PGs X jH (tGs X.K B m f)
section
theorem PS.imp{st:Rm}{t t':TS}(h:PS X st t)(f:∀E U H,t' E U H->t E U H):PS X st t':=λaa s U H E I q=>h aa s U H E I (f E U H q)
theorem PSs.imp{st:List Rm}{t t':TS}(h:PSs X st t)(f:∀E U H,t' E U H->t E U H):PSs X st t':=λaa s U H E I q=>h aa s U H E I (f E U H q)
theorem PG.imp{t t':TG}(h:PG X tg t)(f:∀v U H Q,t' v U H Q->t v U H Q):PG X tg t':=λaa s U H v u Q I r q=>h aa s U H v u Q I r (f v U H Q q)
theorem PGs.imp{t t':TGs}(h:PGs X jH t)(f:∀v U H Q,t' v U H Q->t v U H Q):PGs X jH t':=λaa s U H v u Q I r q=>h aa s U H v u Q I r (f v U H Q q)
theorem PI.imp{iter:L_}{t t':TI}(h:PI X tg iter t)(f:∀U H Q,t' U H Q->t U H Q):PI X tg iter t':=λaa s U H R I q=>h aa s U H R I (f U H R q)
end
section
variable{K:PySem.W.Frag}{B:BB}{I1 H:Hp}{f:Fl}{E:Ends}
theorem KS.after(k:KS K B G I ae f E)(g:Grow G I I1):KS K B G I1 ae f E:=λai H' I' r g'=>k ai H' I' r (g.trans g')
theorem KG.after{cB:L2.St}{Q:L2.St->Hp->Prop}(k:KG K B m U G I ae Q)(g:Grow G I I1)(hs:cB.drop m=U.drop m):KG K B m cB G I1 ae Q:=λai H' I' r g' z=>k ai H' I' r (g.trans g') (z.trans hs)
end
section
variable{B:BB}{a b c:L_}{es:List L_}{ga gb gc:M D}{st:Rm}{aA:List Rm}{g h:M Fl}
noncomputable def seqS(g h:M Fl):M Fl:=bnd g λf=>match f with
 | .nx=>h
 | .rt r=>ret (.rt r)
 | .bk=>ret .bk
 | .ct=>ret .ct
theorem Pa:SDs X B [] (ret .nx):=PSs.imp LA λE U H q=>by
 obtain⟨G,I,Γ,f,ae,r,e1,k⟩:=q;cases e1;exact k U H I r (Grow.refl _ _)
theorem Dk(h:SD X B st g):SDs X B [st] g:=B5 h
theorem Om(h1:SD X B st g)(h2:SDs X B aA h):SDs X B (st::aA) (seqS g h):=PSs.imp (zx h1 h2) λE U H q=>by
 obtain⟨G,I,Γ,f,ae,r,e1,k⟩:=q;obtain⟨f1,Γ1,e2,e3⟩:=uP e1;refine⟨G,I,Γ,f1,Γ1,r,e2,λcB H1 I1 r1 g1=>?_⟩;cases f1 with
 | nx=>exact⟨G,I1,Γ1,f,ae,r1,e3,k.after g1⟩
 | bk=>cases e3;exact k cB H1 I1 r1 g1
 | ct=>cases e3;exact k cB H1 I1 r1 g1
 | rt v=>cases e3;exact k cB H1 I1 r1 g1
theorem Fs:SD X B st (λ_=>none):=PS.imp Iv λE U H q=>by
 obtain⟨G,I,Γ,f,ae,r,e1,k⟩:=q;cases e1
noncomputable def dropS(g:M D):M Fl:=bnd g λ_=>ret .nx
theorem wn(he:ED X B e ga)(hs:RM e none pos.line X.env=pure false:=by rfl):SD X B (.Expr e pos) (dropS ga):=PS.imp (ym he hs) λE U H q=>by
 obtain⟨G,I,Γ,f,ae,r,e1,k⟩:=q;obtain⟨d1,Γ1,e2,e3⟩:=uP e1;cases e3;exact⟨G,I,Γ,d1,_,r,e2,λv H1 I1 r1 g1 h1=>k U H1 I1 r1 g1⟩
noncomputable def retS(g:M D):M Fl:=bnd g λd=>ret (.rt (.val d))
theorem uU(he:ED X B e ga):SD X B (.Return (some e) pos) (retS ga):=PS.imp (zX he) λE U H q=>by
 obtain⟨G,I,Γ,f,ae,r,e1,k⟩:=q;obtain⟨d1,Γ1,e2,e3⟩:=uP e1;cases e3;exact⟨G,I,Γ,d1,_,r,e2,λv H1 I1 r1 g1 h1=>k U H1 I1 r1 g1 v h1⟩
noncomputable def retO(g:M (List D)):M Fl:=bnd g λd=>ret (.rt (.own d))
theorem zv{g:M (List D)}(he:EO X B e g):SD X B (.Return (some e) pos) (retO g):=PS.imp (zX he) λE U H q=>by
 obtain⟨G,I,Γ,f,ae,r,e1,k⟩:=q;obtain⟨d1,Γ1,e2,e3⟩:=uP e1;cases e3;exact⟨G,I,Γ,d1,_,r,e2,λp xs H1 I1 r1 g1 h1 h2 h3 h4 h5=>k U H1 I1 r1 g1 _ ⟨p,xs,rfl,h1,h2,h3,h4,h5⟩⟩
noncomputable def ifS(c:M Bool)(a b:M Fl):M Fl:=bnd c λk=>if k then a else b
theorem HZ{tc:M Bool}(hc:TD X B c tc)(ha:SDs X B sa g)(hb:SDs X B sb h):SD X B (.If c sa sb pos) (ifS tc g h):=PS.imp (EU hc ha hb) λE U H q=>by
 obtain⟨G,I,Γ,f,ae,r,e1,k⟩:=q;obtain⟨d1,Γ1,e2,e3⟩:=uP e1;refine⟨G,I,Γ,d1,Γ1,r,e2,λH1 I1 r1 g1=>?_⟩;cases d1 with
 | true=>exact iteT ⟨G,I1,Γ1,f,ae,r1,e3,k.after g1⟩
 | false=>exact iteF ⟨G,I1,Γ1,f,ae,r1,e3,k.after g1⟩
noncomputable def putS(i:Nat)(q:R):M Unit:=λΓ=>if i < Γ.length then some ((),Γ.set i (some q)) else none
noncomputable def tgN(i:Nat)(d:D):M Unit:=putS i (.val d)
theorem xa{i:Nat}{q:R}{u:Unit}(h:putS i q Γ=some (u,ae)):i < Γ.length/\ae=Γ.set i (some q):=by
 unfold putS at h;obtain⟨h1,h2⟩:=ve h;cases h2;exact⟨h1,rfl⟩
theorem GL{α:Type}:∀{l:List α}{i m:Nat}{a:α},i < m->(l.set i a).drop m=l.drop m
 | [],_,_,_,_=>rfl
 | _::_,0,m+1,_,_=>rfl
 | _::r,i+1,m+1,a,h=>by
  rw[List.set_cons_succ,Ut,Ut];exact GL (Nat.lt_of_succ_lt_succ h)
theorem gd_n{i:Nat}{x:Str}(hN:X.N.Nodup)(hi:X.N[i]?=some x:=by rfl)(hx:locB X.env.scope x=true:=by rfl)(hf:fnB X x=true:=by rfl)(qt:i < m:=by decide):GD X B m (.Name x pos) (tgN i):=
 PG.imp (Mv hN hi (locI hx) (fnI hf)) λv U H Q q=>by
  obtain⟨G,I,Γ,d,ae,r,hd,e1,k⟩:=q;obtain⟨hl,rfl⟩:=xa e1;exact k _ _ I (r.store (by rw[r.len];exact hl) hd (λm=>nomatch m) (λ_ z=>nomatch z)) (Grow.refl _ _) (GL qt)
noncomputable def tgNil(ds:List D):M Unit:=match ds with
 | []=>ret ()
 | _=>λ_=>none
noncomputable def tgCons(f:D->M Unit)(t:List D->M Unit)(ds:List D):M Unit:=match ds with
 | d::r=>bnd (f d) λ_=>t r
 | []=>λ_=>none
theorem wG:GDs X B m [] tgNil:=PGs.imp KZ λv U H Q q=>by
 obtain⟨G,I,Γ,ds,ae,r,hd,e1,k⟩:=q;cases ds with
 | nil=>cases e1;exact⟨hd.nil_inv,k _ _ I r (Grow.refl _ _) rfl⟩
 | cons d t=>cases e1
theorem vw{f:D->M Unit}{t:List D->M Unit}(h1:GD X B m e f)(h2:GDs X B m es t)(hs:(RX (e::es) X.env).map (·.2)=Us e X.env::(RX es X.env).map (·.2):=by rfl):GDs X B m (e::es) (tgCons f t):=PGs.imp (MC h1 h2 hs) λv U H Q q=>by
 obtain⟨G,I,Γ,ds,ae,r,hd,e1,k⟩:=q;cases ds with
 | nil=>cases e1
 | cons d t =>
  obtain⟨x,xs,rfl,h1,h2⟩:=hd.cons_inv;obtain⟨u,Γ1,e2,e3⟩:=uP e1;exact⟨x,xs,rfl,G,I,Γ,d,Γ1,r,h1,e2,λcB H1 I1 r1 g1 z=>⟨G,I1,Γ1,t,ae,r1,h2.mono g1.up,e3,k.after g1 z⟩⟩
noncomputable def tgTup(n:Nat)(t:List D->M Unit)(d:D):M Unit:=match d with
 | .tup ds=>if ds.length=n then t ds else λ_=>none
 | _=>λ_=>none
theorem wM{k:Nat}{t:List D->M Unit}(hc:X.calm=true)(h:GDs X B m es t)(hn:(RX es X.env).length=n:=by rfl)(fF:(RX es X.env).findIdx? (·.1)=none:=by rfl):GD X B m (.Tuple es k pos) (tgTup n t):=
 PG.imp (Lh hc h hn fF) λv U H Q q=>by
  obtain⟨G,I,Γ,d,ae,r,hd,e1,k⟩:=q;cases d with
  | tup ds =>
   obtain⟨a,xs,rfl,h1,h2⟩:=u7 hd;unfold tgTup at e1;by_cases hl:ds.length=n
   ·simp only[hl,if_true] at e1;exact⟨a,xs,rfl,Same.sqT r.iH h1,by rw[←h2.length];exact hl,G,I,Γ,ds,ae,r,h2,e1,k⟩
   ·simp only[hl,if_false] at e1;cases e1
  | _=>cases e1
noncomputable def asgS(g:M D)(f:D->M Unit):M Fl:=bnd g λd=>bnd (f d) λ_=>ret .nx
theorem Ke{f:D->M Unit}(he:ED X B e ga)(hg:GD X B m tg f)(hs:V0 [tg] e pos.line X.env=pure false:=by rfl)(hw:V1 [tg] e X.env=pure none:=by rfl)(h1:(RX [tg] X.env).map (·.2)=[Us tg X.env]:=by rfl):SD X B (.Assign [tg] e pos) (asgS ga f):=PS.imp (F6 he hg hs hw h1) λE U H q=>by
 obtain⟨G,I,Γ,f,ae,r,e1,k⟩:=q;obtain⟨d1,Γ1,e2,e3⟩:=uP e1;obtain⟨d2,Γ2,e4,e5⟩:=uP e3;cases e5;exact⟨G,I,Γ,d1,Γ1,r,e2,λv H1 I1 r1 g1 h1=>⟨G,I1,Γ1,d1,_,r1,h1,e4,λaQ H2 I2 r2 g2 _=>k aQ H2 I2 r2 (g1.trans g2)⟩⟩
noncomputable def setV(i:Nat)(g:M D):M Fl:=bnd g λd=>bnd (putS i (.val d)) λ_=>ret .nx
noncomputable def setO(i:Nat)(g:M (List D)):M Fl:=bnd g λd=>bnd (putS i (.own d)) λ_=>ret .nx
theorem Md{K:PySem.W.Frag}{i:Nat}:∀E U H,tS K B (setV i ga) E U H->tAsg (tD K B ga) (gName i) E U H:=λE U H q=>by
 obtain⟨G,I,Γ,f,ae,r,e1,k⟩:=q;obtain⟨d1,Γ1,e2,e3⟩:=uP e1;obtain⟨d2,Γ2,e4,e5⟩:=uP e3;cases e5;obtain⟨hl,rfl⟩:=xa e4;exact⟨G,I,Γ,d1,Γ1,r,e2,λv H1 I1 r1 g1 h1=>k _ H1 I1 (r1.store (by rw[r1.len];exact hl) h1 (λm=>nomatch m) (λ_ z=>nomatch z)) g1⟩
theorem Nr{K:PySem.W.Frag}{i:Nat}{g:M (List D)}:∀E U H,tS K B (setO i g) E U H->tAsg (tO K B g) (gName i) E U H:=λE U H q=>by
 obtain⟨G,I,Γ,f,ae,r,e1,k⟩:=q;obtain⟨d1,Γ1,e2,e3⟩:=uP e1;obtain⟨d2,Γ2,e4,e5⟩:=uP e3;cases e5;obtain⟨hl,rfl⟩:=xa e4;exact⟨G,I,Γ,d1,Γ1,r,e2,λp xs H1 I1 r1 g1 h1 h2 h3 h4 h5=>k _ H1 I1 (r1.store (by rw[r1.len];exact hl) ⟨p,xs,rfl,h1,h2,h3,h5⟩ (λ_ p' z=>by cases z;exact h4) (λ_ z=>nomatch z)) g1⟩
theorem Fd{i:Nat}{x:Str}(hN:X.N.Nodup)(he:ED X B e ga)(hi:X.N[i]?=some x:=by rfl)(hx:locB X.env.scope x=true:=by rfl)(hs:RM e (some (.Name x aC)) pos.line X.env=pure false:=by rfl)(hf:fnB X x=true:=by rfl):SD X B (.Assign [.Name x aC] e pos) (setV i ga):=PS.imp (yH hN hi (locI hx) he hs (fnI hf)) Md
theorem wQ{i:Nat}{x:Str}{g:M (List D)}(hN:X.N.Nodup)(he:EO X B e g)(hi:X.N[i]?=some x:=by rfl)(hx:locB X.env.scope x=true:=by rfl)(hs:RM e (some (.Name x aC)) pos.line X.env=pure false:=by rfl)(hf:fnB X x=true:=by rfl):SD X B (.Assign [.Name x aC] e pos) (setO i g):=PS.imp (yH hN hi (locI hx) he hs (fnI hf)) Nr
noncomputable def isMut(Γ:Gm)(i:Nat):Bool:=match Γ[i]? with
 | some (some r)=>r.mut
 | _=>false
noncomputable def wr(i:Nat)(F:List D->Option (List D)):M Unit:=λΓ=>match Γ[i]? with
 | some (some (.own ds))=>match F ds with
  | some es=>some ((),Γ.set i (some (.own es)))
  | none=>none
 | some (some (.bor ds))=>match F ds with
  | some es=>some ((),Γ.set i (some (.bor es)))
  | none=>none
 | _=>none
theorem xb{K:PySem.W.Frag}{H:Hp}{i:Nat}(h:isMut Γ i=true)(r:Rep K B G I H U Γ):∃p xs,U[i]?=some (some (.ref p))/\H p=some (.lst xs):=by
 unfold isMut at h;cases e:Γ[i]? with
 | none=>rw[e] at h;cases h
 | some o =>
  cases o with
  | none=>rw[e] at h;cases h
  | some q =>
   rw[e] at h;obtain⟨v,h1,h2⟩:=r.slot i q e;cases q with
   | val d=>cases h
   | fro d=>cases h
   | dic d=>cases h
   | own d=>obtain⟨p,xs,rfl,h3,_⟩:=h2;exact⟨p,xs,h1,h3⟩
   | bor d=>obtain⟨p,xs,rfl,h3,_⟩:=h2;exact⟨p,xs,h1,h3⟩
theorem AK{K:PySem.W.Frag}{H:Hp}{i:Nat}{u:Unit}(h:wr i F Γ=some (u,ae))(r:Rep K B G I H U Γ):
  ∃p xs ds es,U[i]?=some (some (.ref p))/\H p=some (.lst xs)/\IsA K I ds xs/\F ds=some es/\∀ys,IsA K I es ys->Rep K B G I (upd H p (.lst ys)) U ae:=by
 unfold wr at h;cases e:Γ[i]? with
 | none=>rw[e] at h;cases h
 | some o =>
  cases o with
  | none=>rw[e] at h;cases h
  | some q =>
   obtain⟨v,h1,h2⟩:=r.slot i q e;cases q with
   | val d=>rw[e] at h;cases h
   | fro d=>rw[e] at h;cases h
   | dic d=>rw[e] at h;cases h
   | own ds =>
    rw[e] at h;obtain⟨p,xs,rfl,g1,g2,g3,g4⟩:=h2;cases hf:F ds with
    | none=>simp only[hf] at h;cases h
    | some es =>
     simp only[hf] at h;cases h;exact⟨p,xs,ds,es,h1,g1,g4,hf,λys hy=>r.write e rfl h1 g1 (.inl rfl) hy⟩
   | bor ds =>
    rw[e] at h;obtain⟨p,xs,rfl,g1,g2,g3,g4⟩:=h2;cases hf:F ds with
    | none=>simp only[hf] at h;cases h
    | some es =>
     simp only[hf] at h;cases h;exact⟨p,xs,ds,es,h1,g1,g4,hf,λys hy=>r.write e rfl h1 g1 (.inr ⟨rfl,ds,rfl⟩) hy⟩
noncomputable def mutS{α:Type}(i:Nat)(m:M α):M α:=λΓ=>if isMut Γ i then m Γ else none
theorem xH{α:Type}{i:Nat}{m:M α}{r:α×Gm}(h:mutS i m Γ=some r):isMut Γ i=true/\m Γ=some r:=by
 unfold mutS at h;by_cases hc:isMut Γ i=true
 ·rw[if_pos hc] at h;exact⟨hc,h⟩
 ·rw[if_neg hc] at h;cases h
noncomputable def appF(d:D)(ds:List D):Option (List D):=if ds.length < lim then some (ds++[d]) else none
noncomputable def extF(d:D)(ds:List D):Option (List D):=match d with
 | .lst es=>if ds.length+es.length<=lim then some (ds++es) else none
 | _=>none
noncomputable def appS(i:Nat)(g:M D):M Fl:=mutS i (bnd g λd=>bnd (wr i (appF d)) λ_=>ret .nx)
noncomputable def extS(i:Nat)(g:M D):M Fl:=mutS i (bnd g λd=>bnd (wr i (extF d)) λ_=>ret .nx)
theorem Cb{H:Hp}{s:c_}(I:Inv X aa U H s)(hH:RdK X.K H l xs):xs.length<=D_/\∃(ac:List b_) (n:Nat),Vals xs ac/\xs.length=ac.length/\s.heap.get? l=some { cls:=.type "list", data:=.seq ac.toArray n }:=by
 rcases hH with hH | ⟨ac,n,h1,h2,h3⟩
 ·obtain⟨z,ac,n,r,e⟩:=hH.ok I.hok;exact⟨z,ac,n,r,r.length,e⟩
 ·exact⟨by rw[h2.length];exact h3,ac,n,h2,h2.length,I.kIn l _ h1⟩
def rExtendR(K:PySem.W.Frag):V->List V->Hp->VK->Prop:=λx vs H Q=>∃l b xs zs,x=.ref l/\vs=[.ref b]/\H l=some (.lst xs)/\RdK K H b zs/\xs.length+zs.length<=D_/\Q .non (upd H l (.lst (xs++zs)))
theorem Ii:MtM X "list.extend" (rExtendR X.K):=by
 intro aa s U H x vs v us Q I rx rv h;obtain⟨l,b,xs,zs,rfl,rfl,hH,hB,hz,q⟩:=h;cases rx;obtain⟨u,rfl,ru⟩:=rv.one;cases ru;obtain⟨z,ac,n,r,hl,e⟩:=I.lstM hH;obtain⟨z2,cx,n2,r2,eD,e2⟩:=Cb I hB;have fG:ac.toArray.size+cx.toArray.size<=D_:=by rw[o_,o_];omega
 have lE:¬(!ac.toArray.isEmpty&&WF (ac.toArray.size+cx.toArray.size))=true:=by
  rw[notLongL fG,Uu];exact i_
 refine V' F.slot_list_extend ⟨_,e,rfl⟩ F.entry_list_extend (F.args_list_extend_2 _ _)
  (AutoSeq1.list_extend_list_list_0 l ac.toArray n b cx.toArray n2 lE (by rw[o_];omega) (by omega)) ⟨e,e2,?_⟩
 refine⟨.non,_,I.lset (its':=ac++cx) hH e (by simp) (r.append r2) ?_,rfl,q⟩;rw[QZ];omega
theorem xz{i:Nat}{x:Str}{p1:Pos}(hv:PE X (.Name x p1) (tVar i))(ha:ED X B e ga)(hs:RM (.Call (.Attribute (.Name x p1) "append" aS) [e] [] ay) none pos.line X.env=pure false:=by rfl)(iA:f_ [e] X.env=(false,eval e X.env)::f_ [] X.env:=by rfl)(bY:Sw (.Name x p1) "append" X.env (eval (.Name x p1) X.env)=eval (.Name x p1) X.env:=by rfl)(bU:((P_ ay (f_ [e] X.env)).all (λx=>!x.1)&&(VB ay (TV [] X.env)).all (λx=>x.1.isSome)
   &&decide ([e].length+([]:List Ud).length+(if([]:List Ud).isEmpty then 0 else 1) < 30))=true:=by rfl)(bZ:(aS.endLine == ay.line)=true:=by rfl)(bD:(P_ ay (f_ [] X.env)).any (·.1)=false:=by rfl):
  SD X B (.Expr (.Call (.Attribute (.Name x p1) "append" aS) [e] [] ay) pos) (appS i ga):=
 PS.imp (ym (zZ T9 PySem.F.slot_list_append PySem.F.type_list_append FZ hv (vI ha wO iA) bY bU bZ iA bD) hs) λE U H q=>by
  obtain⟨G,I,Γ,f,ae,r,e1,k⟩:=q;obtain⟨hm,e1⟩:=xH e1;obtain⟨d1,Γ1,e2,e3⟩:=uP e1;obtain⟨d2,Γ2,e4,e5⟩:=uP e3;cases e5;obtain⟨p,xs,h1,h2⟩:=xb hm r;refine⟨_,h1,.inl ⟨rfl,xs,SqL.of h2⟩,G,I,Γ,d1,Γ1,r,e2,λv H1 I1 r1 g1 hd=>?_⟩;obtain⟨p',cb,ds,es,h3,h4,h5,h6,h7⟩:=AK e4 r1;have hp:p'=p:=by rw[h1] at h3;cases h3;rfl
  subst hp;obtain⟨hl,rfl⟩:=ve h6;refine⟨p',cb,v,rfl,rfl,h4,?_,k U _ I1 (h7 _ (IsA.append h5 (IsA.cons hd IsA.nil))) g1⟩;rw[←h5.length];exact G_ hl (xh (x_ _))
theorem HD{i:Nat}{x:Str}{p1:Pos}(hv:PE X (.Name x p1) (tVar i))(ha:ED X B e ga)(hs:RM (.Call (.Attribute (.Name x p1) "extend" aS) [e] [] ay) none pos.line X.env=pure false:=by rfl)(iA:f_ [e] X.env=(false,eval e X.env)::f_ [] X.env:=by rfl)(bY:Sw (.Name x p1) "extend" X.env (eval (.Name x p1) X.env)=eval (.Name x p1) X.env:=by rfl)(bU:((P_ ay (f_ [e] X.env)).all (λx=>!x.1)&&(VB ay (TV [] X.env)).all (λx=>x.1.isSome)
   &&decide ([e].length+([]:List Ud).length+(if([]:List Ud).isEmpty then 0 else 1) < 30))=true:=by rfl)(bZ:(aS.endLine == ay.line)=true:=by rfl)(bD:(P_ ay (f_ [] X.env)).any (·.1)=false:=by rfl):
  SD X B (.Expr (.Call (.Attribute (.Name x p1) "extend" aS) [e] [] ay) pos) (extS i ga):=
 PS.imp (ym (zZ T9 PySem.F.slot_list_extend PySem.F.type_list_extend Ii hv (vI ha wO iA) bY bU bZ iA bD) hs) λE U H q=>by
  obtain⟨G,I,Γ,f,ae,r,e1,k⟩:=q;obtain⟨hm,e1⟩:=xH e1;obtain⟨d1,Γ1,e2,e3⟩:=uP e1;obtain⟨d2,Γ2,e4,e5⟩:=uP e3;cases e5;obtain⟨p,xs,h1,h2⟩:=xb hm r;refine⟨_,h1,.inl ⟨rfl,xs,SqL.of h2⟩,G,I,Γ,d1,Γ1,r,e2,λv H1 I1 r1 g1 hd=>?_⟩;obtain⟨p',cb,ds,es,h3,h4,h5,h6,h7⟩:=AK e4 r1;have hp:p'=p:=by rw[h1] at h3;cases h3;rfl
  subst hp;cases d1 with
  | lst zs =>
   obtain⟨a,ys,rfl,i1,i2⟩:=u5 hd;obtain⟨hl,rfl⟩:=ve h6;refine⟨p',a,cb,ys,rfl,rfl,h4,Same.rdK r1.iH i1,?_,k U _ I1 (h7 _ (IsA.append h5 i2)) g1⟩;rw[←h5.length,←i2.length];exact xh hl
  | _=>cases h6
noncomputable def asI(d:D):Option Int:=match d with
 | .int i=>some i
 | _=>none
theorem CQ{i:Int}(h:asI d=some i):d=.int i:=by
 cases d<;>simp[asI] at h
 rw[h]
noncomputable def stF(k:Int)(d:D)(ds:List D):Option (List D):=(ixN ds.length k).map λj=>ds.set j d
noncomputable def stS(i:Nat)(gi gv:M D):M Fl:=bnd gv λd=>mutS i (bnd gi λn=>bnd (lft (asI n)) λk=>bnd (wr i (stF k d)) λ_=>ret .nx)
theorem zq{i:Nat}{x:Str}{p1 p2:Pos}{gi:M D}(hv:PE X (.Name x p1) (tVar i))(hi:ED X B ie gi)(he:ED X B e ga)(ha:∀v,Us (.Subscript (.Name x p1) ie p2) X.env v=(do
   let ov ←SE [v] (eval (.Name x p1) X.env)
   let iv ←SE [v,ov] (eval ie X.env)
   WL p2
   SE [v,ov,iv] (setItem ov iv v)
   release [v,ov,iv] []):=by intros;rfl)(hs:V0 [.Subscript (.Name x p1) ie p2] e pos.line X.env=pure false:=by rfl)(hw:V1 [.Subscript (.Name x p1) ie p2] e X.env=pure none:=by rfl)(h1:(RX [.Subscript (.Name x p1) ie p2] X.env).map (·.2)=[Us (.Subscript (.Name x p1) ie p2) X.env]:=by rfl):
  SD X B (.Assign [.Subscript (.Name x p1) ie p2] e pos) (stS i gi ga):=PS.imp (F6 he (O1 hv hi Jo ha) hs hw h1) λE U H q=>by
 obtain⟨G,I,Γ,f,ae,r,e1,k⟩:=q;obtain⟨d,Γ1,e2,e3⟩:=uP e1;obtain⟨hm,e3⟩:=xH e3;obtain⟨n,Γ2,e4,e5⟩:=uP e3;obtain⟨z,aI,e6,e7⟩:=uP e5;obtain⟨e8,rfl⟩:=u6 e6;obtain⟨u,aJ,f1,f2⟩:=uP e7;cases f2;have:=CQ e8;subst this;refine⟨G,I,Γ,d,Γ1,r,e2,λv H1 I1 r1 g1 hd=>?_⟩;obtain⟨p,xs,h1,h2⟩:=xb hm r1;refine⟨_,h1,G,I1,Γ1,_,_,r1,e4,λw H2 I2 r2 g2 hw=>?_⟩;obtain⟨p',cb,ds,es,h3,h4,h5,h6,h7⟩:=AK f1 r2;have hp:p'=p:=by rw[h1] at h3;cases h3;rfl
 subst hp;unfold stF at h6;cases hj:ixN ds.length z with
 | none=>rw[hj] at h6;cases h6
 | some j =>
  rw[hj] at h6;cases h6;exact⟨p',cb,z,j,rfl,uZ hw,h4,by rw[←h5.length];exact hj,k U _ I2 (h7 _ (IsA.set (hd.mono g2.up) j h5)) (g1.trans g2)⟩
def Yields(K:PySem.W.Frag)(I:Hp)(ds:List D)(J:It):Prop:=∀(i:Nat) (H1:Hp),Same I H1 →
 (∀d,ds[i]?=some d->J.go i H1/\∀x H2,J.yld i H1 x H2->(H2=H1/\Is K I d x)\/(∃p es xs,d=.tup es/\x=.ref p/\H1 p=none/\H2=upd H1 p (.tup xs)/\IsA K I es xs))/\(ds.length<=i->J.stop i H1)
noncomputable def tI(K:PySem.W.Frag)(B:BB)(g:M (List D)):TI:=λU H R=>∃G I Γ ds ae,Rep K B G I H U Γ/\g Γ=some (ds,ae)/\∀J H' I',Rep K B G I' H' U ae->Grow G I I'->Yields K I' ds J->R J H'
def ITD(X:Cx)(B:BB)(tg iter:L_)(g:M (List D)):Prop:=PI X tg iter (tI X.K B g)
theorem Oi{l:L_}(hl:PE X l tl):PI X tg l (λU H R=>tl U H λx H1=>(∃a,x=.ref a/\(∃xs,SqL X.K H1 a xs)/\R (Itl X.K a) H1)\/(∃a,x=.ref a/\(∃xs,SqT X.K H1 a xs)/\R (Itt X.K a) H1)):=by
 intro aa s U H R I h;refine thn (hl aa s U H _ I h) λv s1 ⟨x,H1,I1,r1,q1⟩=>?_
 rcases q1 with⟨a,e,⟨xs,hq⟩,q⟩ | ⟨a,e,⟨xs,hq⟩,q⟩
 ·subst e;cases r1;obtain⟨ac,rv,p,hz⟩:=I1.list hq;refine RA p.isList ?_;refine⟨s1.heap.objs.size,[s1.heap.objs.size],_,_,H1,rfl,I1.kept (t':=s1.toks) λb o e=>e_ _ e,Jb a _,⟨_,r_ _ rfl,rfl,rfl⟩,λb hb=>?_,q⟩;have e:b=s1.heap.objs.size:=by simpa using hb
  subst e;exact I1.fpOk (x_ _) (I1.hok.fresh (x_ _))
 ·subst e;cases r1;obtain⟨ac,rv,p,hz⟩:=I1.tuple hq;refine V_ (show s1.heap.IsTuple a ac.toArray from p) ?_;refine⟨s1.heap.objs.size,[s1.heap.objs.size],_,_,H1,rfl,I1.kept (t':=s1.toks) λb o e=>e_ _ e,NM a _,⟨_,r_ _ rfl,rfl,rfl⟩,λb hb=>?_,q⟩;have e:b=s1.heap.objs.size:=by simpa using hb
  subst e;exact I1.fpOk (x_ _) (I1.hok.fresh (x_ _))
noncomputable def seqI(d:D):Option (List D):=match d with
 | .lst ds=>some ds
 | .tup ds=>some ds
 | _=>none
noncomputable def itS(g:M D):M (List D):=bnd g λd=>lft (seqI d)
theorem vo(ha:ED X B a ga):ITD X B tg a (itS ga):=PI.imp (Oi ha) λU H R q=>by
 obtain⟨G,I,Γ,ds,ae,r,e1,k⟩:=q;obtain⟨d,Γ1,e2,e3⟩:=uP e1;obtain⟨e4,rfl⟩:=u6 e3;refine⟨G,I,Γ,d,_,r,e2,λv H1 I1 r1 g1 hd=>?_⟩;cases d with
 | lst es =>
  cases e4;obtain⟨l,xs,rfl,h1,h2⟩:=u5 hd;refine .inl ⟨l,rfl,⟨xs,(Same.rdK r1.iH h1).sq⟩,k _ _ _ r1 g1 λi H2 s2=>⟨λd hd=>?_,λhi=>⟨xs,(Same.rdK s2 h1).sq,by rw[←h2.length];exact hi⟩⟩⟩;obtain⟨x,e5,e6⟩:=h2.get hd;refine⟨⟨xs,x,(Same.rdK s2 h1).sq,e5⟩,λy H3 hy=>.inl ⟨hy.1,?_⟩⟩;have:=hy.2 xs ((Same.rdK s2 h1).sq);rw[e5] at this;cases this;exact e6
 | tup es =>
  cases e4;obtain⟨l,xs,rfl,h1,h2⟩:=u7 hd;refine .inr ⟨l,rfl,⟨xs,Same.sqT r1.iH h1⟩,k _ _ _ r1 g1 λi H2 s2=>⟨λd hd=>?_,λhi=>⟨xs,Same.sqT s2 h1,by rw[←h2.length];exact hi⟩⟩⟩;obtain⟨x,e5,e6⟩:=h2.get hd;refine⟨⟨xs,x,Same.sqT s2 h1,e5⟩,λy H3 hy=>.inl ⟨hy.1,?_⟩⟩;have:=hy.2 xs (Same.sqT s2 h1);rw[e5] at this;cases this;exact e6
 | _=>cases e4
noncomputable def rngD(lo:Int)(n:Nat):List D:=(RR n).map λ(k:Nat)=>D.int (lo+(k:Int))
theorem NS{K:PySem.W.Frag}(lo:Int)(n:Nat):Yields K I (rngD lo n) (Itr lo n):=λi H1 s1=>by
 refine⟨λd hd=>?_,λhi=>?_⟩
 ·unfold rngD at hd;rw[y_] at hd;cases e:(RR n)[i]? with
  | none=>rw[e] at hd;cases hd
  | some j =>
   rw[e] at hd;cases hd;obtain⟨h1,h2⟩:=n_.mp e;rw[UO] at h2;rw[Ue] at h1;subst h2;refine⟨h1,λx H2 hy=>.inl ⟨hy.1,?_⟩⟩;rw[hy.2];exact Is.int _
 ·unfold rngD at hi;rw[p_,Ue] at hi;exact hi
noncomputable def rngI1(ds:List D):Option (List D):=match ds with
 | [.int j]=>if -1000000<=j/\j<=1000000 then some (rngD 0 j.toNat) else none
 | _=>none
theorem Fy{es:List D}(h:rngI1 ds=some es):∃j:Int,ds=[.int j]/\(-1000000<=j/\j<=1000000)/\es=rngD 0 j.toNat:=by
 unfold rngI1 at h;split at h
 ·obtain⟨h1,h2⟩:=ve h;exact⟨_,rfl,h1,h2⟩
 ·cases h
theorem yM{p:Pos}{t:M (List D)}(hg:Gl X "range")(hm:X.mg "range"=none)(ha:AD X B [a] t)(hs:f_ [a] X.env=[(false,eval a X.env)]:=by rfl):ITD X B tg (.Call (.Name "range" p) [a] [] pos) (fn1 rngI1 t):=
 PI.imp (N4 hg hm ha hs) λU H R q=>by
  obtain⟨G,I,Γ,ds,ae,r,e1,k⟩:=q;obtain⟨d,Γ1,e2,e3⟩:=uP e1;obtain⟨e4,rfl⟩:=u6 e3;obtain⟨j,rfl,⟨h1,h2⟩,rfl⟩:=Fy e4;refine⟨G,I,Γ,_,_,r,e2,λvs H1 I1 r1 g1 hd=>?_⟩;obtain⟨x,rfl,hx⟩:=hd.one;exact⟨j,by rw[uZ hx],by omega,by omega,k _ _ _ r1 g1 (NS _ _)⟩
noncomputable def forM(az:D->M Unit)(body:M Fl):List D->M Fl
 | []=>ret .nx
 | d::ds=>bnd (az d) λ_=>bnd body λf=>match f with
  | .nx=>forM az body ds
  | .ct=>forM az body ds
  | .bk=>ret .nx
  | .rt r=>ret (.rt r)
noncomputable def forS(it:M (List D))(az:D->M Unit)(body:M Fl):M Fl:=bnd it λds=>forM az body ds
theorem Nl{iter:L_}{it:M (List D)}{az:D->M Unit}(hp:Um (l_ X.prog X.w) X.A X.env X.xe)(hc:X.calm=true)(hi:ITD X B tg iter it)(hg:GD X B m tg az)(hb:SDs X B body g)(hs:∀x,Ry iter X.env x=pure x:=by intros;rfl):SD X B (.For tg iter body [] pos) (forS it az g):=PS.imp (Ek hp hc hi hg hb hs) λE U H q=>by
 obtain⟨G,I,Γ,f,ae,r,e1,k⟩:=q;obtain⟨ds,Γ1,e2,e3⟩:=uP e1;refine⟨G,I,Γ,ds,Γ1,r,e2,λJ H1 I1 r1 g1 y=>?_⟩;refine⟨λi m U H=>∃I2 Γ2,Rep X.K B G I2 H U Γ2/\Grow G I1 I2/\forM az g (ds.drop i) Γ2=some (f,ae)/\i<=ds.length/\m=ds.length - i,⟨ds.length,I1,Γ1,r1,Grow.refl _ _,by simpa using e3,Rw _,rfl⟩,?_⟩;rintro i m' aQ H2 ⟨I2,Γ2,r2,g2,e4,bC,rfl⟩;obtain⟨yg,ys⟩:=y i H2 (g2.up.trans r2.iH);by_cases bz:i < ds.length
 ·have hd:ds.drop i=ds[i]::ds.drop (i+1):=Q0 bz;obtain⟨go,yld⟩:=yg ds[i] (h_ bz);rw[hd] at e4;obtain⟨u,aI,e5,e6⟩:=uP e4;obtain⟨fl,aJ,e7,e8⟩:=uP e6;refine .inr ⟨go,λai H'=>∃I3,Rep X.K B G I3 H' ai aJ/\Grow G I1 I3/\(fl=.nx\/fl=.ct),λai H' ⟨I3,r3,g3,hf⟩=>⟨ds.length - (i+1),by omega,I3,aJ,r3,g3,?_,bz,rfl⟩,λx H3 hy=>?_⟩
  ·rcases hf with rfl | rfl<;>exact e8
  ·have nQ:∀I3,Rep X.K B G I3 H3 aQ Γ2->Grow G I2 I3->Is X.K I3 ds[i] x->tGD X.K B m az x aQ H3 λaQ H2=>tS X.K B g { E with nx:=λai H'=>∃I3,Rep X.K B G I3 H' ai aJ/\Grow G I1 I3/\(fl=.nx\/fl=.ct),ct:=λai H'=>∃I3,Rep X.K B G I3 H' ai aJ/\Grow G I1 I3/\(fl=.nx\/fl=.ct),bk:=E.nx } aQ H2:=by
    intro I3 r3 g3 hx;refine⟨G,I3,Γ2,ds[i],aI,r3,hx,e5,λdZ H4 I4 r4 g4 _=>⟨G,I4,aI,fl,aJ,r4,e7,λcF H5 I5 r5 g5=>?_⟩⟩;have gg:Grow G I1 I5:=g2.trans (g3.trans (g4.trans g5));cases fl with
    | nx=>exact⟨I5,r5,gg,.inl rfl⟩
    | ct=>exact⟨I5,r5,gg,.inr rfl⟩
    | bk=>cases e8;exact k cF H5 I5 r5 (g1.trans gg)
    | rt v=>cases e8;exact k cF H5 I5 r5 (g1.trans gg)
   rcases yld x H3 hy with⟨rfl,hx⟩ | ⟨p,es,xs,dJ,rfl,dL,rfl,hx⟩
   ·exact nQ I2 r2 (Grow.refl _ _) (hx.mono g2.up)
   ·refine nQ _ (r2.alloc dL _) (r2.growAlloc dL _) ?_;rw[dJ];exact Is.tup (SqT.of u3) ((hx.mono g2.up).mono (vq (r2.iFree dL) _))
 ·have cN:i=ds.length:=by omega
  subst cN;rw[UZ] at e4;cases e4;exact .inl ⟨ys (x_ _),k aQ H2 I2 r2 (g1.trans g2)⟩
end
noncomputable def fin:List R->Gm->Option (List R)
 | [],_=>some []
 | .val d::rs,_::Γ=>match fin rs Γ with
  | some l=>some (.val d::l)
  | none=>none
 | .bor _::rs,some (.bor ds)::Γ=>match fin rs Γ with
  | some l=>some (.bor ds::l)
  | none=>none
 | _,_=>none
noncomputable def flR:Fl->Option R
 | .rt r=>some r
 | .nx=>some (.val .non)
 | _=>none
noncomputable def fnD1(n:Nat)(body:M Fl)(rs:List R):Option (R×List R):=
 match body (rs.map some++QY (n - rs.length) none) with
 | some (f,ae)=>match flR f with
  | some r=>match fin rs ae with
   | some l=>some (r,l)
   | none=>none
  | none=>none
 | none=>none
noncomputable def fnD(n ar:Nat)(body:M Fl)(rs:List R):Option (R×List R):=if rs.length=ar then fnD1 n body rs else none
noncomputable def noOwn:R->Bool
 | .own _=>false
 | _=>true
noncomputable def vB(vs:List V):BB:=λi=>(vs.map some)[i]?
noncomputable def spD(K:PySem.W.Frag)(g:List R->Option (R×List R)):Sp:=λvs H Q _=>∃(G I:Hp) (rs:List R) (r:R) (aZ:List R),Rep K (vB vs) G I H (vs.map some) (rs.map some)/\rs.all noOwn=true/\g rs=some (r,aZ) ∧
 ∀v H' I',Rep K (vB vs) G I' H' (vs.map some) (aZ.map some)->Grow G I I'->ResOk K G I' H' (vs.map some) (aZ.map some) r v->Q v H'
theorem yT:∀{rs l:List R}{Γ:Gm},fin rs Γ=some l->l.length=rs.length/\∀(i:Nat) (r:R),l[i]?=some r->(∃d,r=.val d/\rs[i]?=some (.val d))\/(∃ds,r=.bor ds/\Γ[i]?=some (some (.bor ds)))
 | [],l,Γ,h=>by
  rw[fin] at h;cases h;exact⟨rfl,λi r e=>by simp at e⟩
 | .val d::rs,l,[],h=>by simp[fin] at h
 | .bor d::rs,l,[],h=>by simp[fin] at h
 | .own d::rs,l,Γ,h=>by cases Γ<;>simp[fin] at h
 | .fro d::rs,l,Γ,h=>by cases Γ<;>simp[fin] at h
 | .dic d::rs,l,Γ,h=>by cases Γ<;>simp[fin] at h
 | .val d::rs,l,o::Γ,h=>by
  rw[fin] at h;cases e:fin rs Γ with
  | none=>rw[e] at h;cases h
  | some l' =>
   rw[e] at h;cases h;obtain⟨h1,h2⟩:=yT e;refine⟨by simp[h1],λi r er=>?_⟩;cases i with
   | zero=>simp at er;subst er;exact .inl ⟨d,rfl,rfl⟩
   | succ i =>
    rcases h2 i r (by simpa using er) with⟨d',e1,e2⟩ | ⟨ds,e1,e2⟩
    ·exact .inl ⟨d',e1,by simpa using e2⟩
    ·exact .inr ⟨ds,e1,by simpa using e2⟩
 | .bor d::rs,l,none::Γ,h=>by simp[fin] at h
 | .bor d::rs,l,some (.val x)::Γ,h=>by simp[fin] at h
 | .bor d::rs,l,some (.own x)::Γ,h=>by simp[fin] at h
 | .bor d::rs,l,some (.fro x)::Γ,h=>by simp[fin] at h
 | .bor d::rs,l,some (.dic x)::Γ,h=>by simp[fin] at h
 | .bor d::rs,l,some (.bor x)::Γ,h=>by
  rw[fin] at h;cases e:fin rs Γ with
  | none=>rw[e] at h;cases h
  | some l' =>
   rw[e] at h;cases h;obtain⟨h1,h2⟩:=yT e;refine⟨by simp[h1],λi r er=>?_⟩;cases i with
   | zero=>simp at er;subst er;exact .inr ⟨x,rfl,rfl⟩
   | succ i =>
    rcases h2 i r (by simpa using er) with⟨d',e1,e2⟩ | ⟨ds,e1,e2⟩
    ·exact .inl ⟨d',e1,by simpa using e2⟩
    ·exact .inr ⟨ds,e1,by simpa using e2⟩
theorem getMap{α Y:Type}{f:α->Y}{l:List α}{i:Nat}{b:Y}(h:(l.map f)[i]?=some b):∃a,l[i]?=some a/\b=f a:=by
 rw[y_] at h;cases e:l[i]? with
 | none=>rw[e] at h;cases h
 | some a=>rw[e] at h;exact⟨a,rfl,(QX h).symm⟩
theorem v8{α:Type}{l:List α}{i:Nat}{a:α}(h:(l.map some++QY n (none:Option α))[i]?=some (some a)):l[i]?=some a:=by
 by_cases hi:i < (l.map some).length
 ·rw[RH hi] at h;obtain⟨b,e1,e2⟩:=getMap h;cases e2;exact e1
 ·rw[RO (by omega),Sb] at h;split at h<;>cases h
section
variable{P:u_}{w:C_}{K:PySem.W.Frag}
theorem JA{x:Str}{st:Rm}{k:Nat}(F:Fun K x qual st f fd)(S:FnScope N ps (defScope st))(g:M Fl)(hb:∀(ak:b_) (A:Rh) (outer:List Env) (s:c_) (H:Hp) (E:XK) (B:BB),Room k (A.deeper (SR qual (defScope st) s.heap.objs.size f ak)) →
   SDs (cxOf CX0 P w K mg base N qual (defScope st) f ak A outer s H E).nox B (defBody st) g):FnOk P w K mg base CX0 (k+1) f fd ps (spD K (fnD N.length ps.length g)):=by
 refine F.ok S (λvs H Q E h=>?_) (λak A outer s H vs Q E hr h=>?_)
 ·obtain⟨_,_,rs,_,_,h1,_,h2,_⟩:=h;unfold fnD at h2;by_cases hc:rs.length=ps.length
  ·rw[←hc];simpa using h1.len
  ·rw[if_neg hc] at h2;cases h2
 ·obtain⟨G,I,rs,r,aZ,h2,h3,h4,h5⟩:=h;have hl:vs.length=rs.length:=by simpa using h2.len
  refine⟨_,hb ak A outer s H E (λi=>(L2.start N vs)[i]?) hr,?_⟩;unfold fnD at h4
  have hc:rs.length=ps.length:=by
   by_cases hc:rs.length=ps.length
   ·exact hc
   ·rw[if_neg hc] at h4;cases h4
  rw[if_pos hc] at h4;unfold fnD1 at h4;cases e1:g (rs.map some++QY (N.length - rs.length) none) with
  | none=>rw[e1] at h4;cases h4
  | some q =>
   obtain⟨fl,ae⟩:=q;rw[e1] at h4;dsimp only at h4;cases e2:flR fl with
   | none=>rw[e2] at h4;cases h4
   | some rr =>
    rw[e2] at h4;dsimp only at h4;cases e3:fin rs ae with
    | none=>rw[e3] at h4;cases h4
    | some l =>
     rw[e3] at h4;obtain⟨rfl,rfl⟩:rr=r/\l=aZ:=by cases h4;exact⟨rfl,rfl⟩
     have eE:∀{i:Nat}{v:V},vs[i]?=some v->(L2.start N vs)[i]?=some (some v):=λ{i v} e=>by
      unfold L2.start;rw[RH (by rw[p_];exact(n_.mp e).1),y_,e];rfl
     have fL:∀{i:Nat}{v:V},(L2.start N vs)[i]?=some (some v)->vs[i]?=some v:=λ{i v} e=>v8 e
     have iB:Rep K (λi=>(L2.start N vs)[i]?) G I H (L2.start N vs) (rs.map some++QY (N.length - rs.length) none):={
      iH:=h2.iH,gH:=h2.gH
      len:=by unfold L2.start;rw[QZ,QZ,p_,p_,N_,N_,hl]
      slot:=λi q e=>by
       have e':=v8 e;obtain⟨v,e4,e5⟩:=h2.slot i q (by rw[y_,e'];rfl);obtain⟨v',e6,e7⟩:=getMap e4;cases e7;exact⟨v,eE e6,e5⟩
      dist:=λi j q q' v e e' m m' s1 s2=>h2.dist i j q q' v (by rw[y_,v8 e];rfl) (by rw[y_,v8 e'];rfl) m m' (by rw[y_,fL s1];rfl) (by rw[y_,fL s2];rfl)
      bor:=λi ds e=>rfl }
     obtain⟨f1,f2⟩:=yT e3
     -- behind the body
     have back:∀{ai:L2.St}{H' I':Hp},Rep K (λi=>(L2.start N vs)[i]?) G I' H' ai ae->Grow G I I'->Rep K (vB vs) G I' H' (vs.map some) (l.map some):=λ{ai H' I'} r' g'=>{
      iH:=r'.iH,gH:=r'.gH
      len:=by rw[p_,p_,f1,hl]
      slot:=λi q e=>by
       obtain⟨q',e4,e5⟩:=getMap e;cases e5
       rcases f2 i q e4 with⟨d,rfl,e6⟩ | ⟨ds,rfl,e6⟩
       ·obtain⟨v,e7,e8⟩:=h2.slot i (.val d) (by rw[y_,e6];rfl);exact⟨v,e7,Is.mono g'.up e8⟩
       ·obtain⟨v,e7,e8⟩:=r'.slot i _ e6;have e9:=r'.bor i ds e6;rw[e7] at e9;exact⟨v,by rw[y_,fL e9.symm];rfl,e8⟩
      dist:=λi j q q' v e e' m m' s1 s2=>by
       obtain⟨_,e4,e5⟩:=getMap e;cases e5;obtain⟨_,e6,e7⟩:=getMap e';cases e7
       rcases f2 i q e4 with⟨d,rfl,_⟩ | ⟨ds,rfl,e8⟩
       ·cases m
       rcases f2 j q' e6 with⟨d,rfl,_⟩ | ⟨eF,rfl,e9⟩
       ·cases m'
       obtain⟨v1,a1,_⟩:=getMap s1;obtain⟨v2,a2,a3⟩:=getMap s2;have b1:=r'.bor i ds e8;have b2:=r'.bor j eF e9;rename_i b3;cases b3;cases a3;rw[eE a1] at b1;rw[eE a2] at b2;exact r'.dist i j _ _ v e8 e9 rfl rfl b1 b2
      bor:=λi ds e=>rfl }
     have ap:∀{ai:L2.St}{H' I':Hp}{p:g_},Rep K (λi=>(L2.start N vs)[i]?) G I' H' ai ae->Apart ai ae p->Apart (vs.map some) (l.map some) p:=λ{ai H' I' p} r' a i q e m z=>by
      obtain⟨_,e4,e5⟩:=getMap e;cases e5
      rcases f2 i q e4 with⟨d,rfl,_⟩ | ⟨ds,rfl,e8⟩
      ·cases m
      obtain⟨v1,a1,a2⟩:=getMap z;cases a2;exact a i _ e8 rfl ((r'.bor i ds e8).trans (eE a1))
     refine⟨G,I,_,fl,ae,iB,e1,λai H' I' r' g'=>?_⟩;cases fl with
     | nx=>cases e2;exact h5 _ H' I' (back r' g') g' (show Is K I' D.non V.non from Is.non)
     | bk=>cases e2
     | ct=>cases e2
     | rt r0 =>
      cases e2;intro v hv;refine h5 v H' I' (back r' g') g' ?_;cases rr with
      | val d=>exact hv
      | bor d=>exact hv
      | fro d=>exact hv
      | dic d =>
       obtain⟨p,xs,b1,b2,b3,b4,b5,b6⟩:=hv;exact⟨p,xs,b1,b2,b3,b4,ap r' b5,b6⟩
      | own d =>
       obtain⟨p,xs,b1,b2,b3,b4,b5,b6⟩:=hv;exact⟨p,xs,b1,b2,b3,b4,ap r' b5,b6⟩
end
mutual
noncomputable def noL:D->Bool
 | .tup ds=>noLA ds
 | .lst _=>false
 | _=>true
noncomputable def noLA:List D->Bool
 | []=>true
 | d::ds=>noL d&&noLA ds
end
noncomputable def tupOf(I0 I:Hp):Hp:=λb=>match I0 b with
 | some o=>some o
 | none=>match I b with
  | some (.lst _)=>none
  | o=>o
theorem EY:Same I0 (tupOf I0 I):=λb o e=>by unfold tupOf;rw[e]
theorem AC{b:g_}(h:tupOf I0 I b=some o):I0 b=some o\/(I0 b=none/\I b=some o/\∀xs,o≠.lst xs):=by
 unfold tupOf at h;cases e:I0 b with
 | some o'=>rw[e] at h;cases h;exact .inl rfl
 | none =>
  rw[e] at h;cases e1:I b with
  | none=>rw[e1] at h;cases h
  | some o' =>
   rw[e1] at h;cases o'<;>first | (cases h;exact .inr ⟨rfl,rfl,λxs z=>by cases z⟩) | cases h
theorem y6(s:Same I0 I){b:g_}(h:I b=some o)(n:∀xs,o≠.lst xs):tupOf I0 I b=some o:=by
 unfold tupOf;cases e:I0 b with
 | some o'=>rw[s b o' e] at h;exact h
 | none =>
  simp only[h];split
  ·rename_i z;cases z;exact absurd rfl (n _)
  ·rfl
mutual
theorem KP{K:PySem.W.Frag}{I0 I:Hp}(s:Same I0 I):∀(d:D) (v:V),noL d=true->Is K I d v->Is K (tupOf I0 I) d v
 | .non,_,_,h=>by rw[Is] at h ⊢;exact h
 | .bl _,_,_,h=>by rw[Is] at h ⊢;exact h
 | .int _,_,_,h=>by rw[Is] at h ⊢;exact h
 | .str _,_,_,h=>by rw[Is] at h ⊢;exact h
 | .lst _,_,n,_=>by simp[noL] at n
 | .exc _ _,v,_,h=>by
  obtain⟨a,d,rfl,h1,h2⟩:=Aq h;exact Is.exc (y6 s h1 λxs z=>by cases z) λk z=>let ⟨dx,q1,q2⟩:=h2 k z;⟨dx,q1,y6 s q2 λxs z=>by cases z⟩
 | .tup ds,v,n,h=>by
  rw[noL] at n;obtain⟨a,xs,rfl,h1,h2⟩:=u7 h;refine Is.tup ?_ (Ck s ds xs n h2)
  rcases h1 with(h1 | ⟨o,h1⟩) | h1
  ·exact .inl (.inl (y6 s h1 λxs z=>by cases z))
  ·exact .inl (.inr ⟨o,y6 s h1 λxs z=>by cases z⟩)
  ·exact .inr h1
theorem Ck{K:PySem.W.Frag}{I0 I:Hp}(s:Same I0 I):∀(ds:List D) (xs:List V),noLA ds=true->IsA K I ds xs->IsA K (tupOf I0 I) ds xs
 | [],xs,_,h=>by rw[h.nil_inv];exact IsA.nil
 | d::ds,xs,n,h=>by
  rw[noLA,I_] at n;obtain⟨x,r,rfl,h1,h2⟩:=h.cons_inv;exact IsA.cons (KP s d x n.1 h1) (Ck s ds r n.2 h2)
end
section
variable{B:BB}{es:List L_}{p:Pos}{x:Str}{k:Nat}{g:List R->Option (R×List R)}{t:M (List D)}
noncomputable def cvF(g:List R->Option (R×List R))(ds:List D):Option D:=match g (ds.map .val) with
 | some (.val d,_)=>some d
 | some (.fro d,_)=>some (.lst d)
 | _=>none
noncomputable def coF(g:List R->Option (R×List R))(ds:List D):Option (List D):=match g (ds.map .val) with
 | some (.own d,_)=>some d
 | some (.fro d,_)=>if noLA d=true then some d else none
 | _=>none
theorem yk{K:PySem.W.Frag}{H:Hp}{vs:List V}(r:Rep K B G I H U Γ)(h:IsA K I ds vs):Rep K (vB vs) H I H (vs.map some) ((ds.map R.val).map some) where
 iH:=r.iH
 gH:=Same.refl _
 len:=by rw[p_,p_,p_,h.length]
 slot:=λi q e=>by
  obtain⟨_,e1,e2⟩:=getMap e;cases e2;obtain⟨d,e3,rfl⟩:=getMap e1;obtain⟨v,e4,e5⟩:=h.get e3;exact⟨v,by rw[y_,e4];rfl,e5⟩
 dist:=λi j q q' v e e' m=>by
  obtain⟨_,e1,e2⟩:=getMap e;cases e2;obtain⟨d,e3,rfl⟩:=getMap e1;cases m
 bor:=λi ds e=>rfl
theorem yn(ds:List D):(ds.map R.val).all noOwn=true:=by
 induction ds with
 | nil=>rfl
 | cons d r ih=>rw[Q7,Sd,ih];rfl
theorem AS{K:PySem.W.Frag}{B':BB}{H:Hp}{ai:L2.St}(r:Rep K B G I H U Γ)(r':Rep K B' H I' H' ai ae)(g':Grow H I I'):Rep K B G I' H' U Γ/\Grow G I I':=
 ⟨r.ext g'.up r'.gH r'.iH g'.new,g'.up,λb o e=>(g'.new b o e).imp (λz=>z) λz=>r.gFree z⟩
theorem t_cv{K:PySem.W.Frag}{E:XK}:∀U H Q,tD K B (fn1 (cvF g) t) U H Q->tCall (spD K g) [] E (tAD K B t) U H Q:=λU H Q q=>by
 obtain⟨G,I,Γ,d,ae,r,e1,kk⟩:=q;obtain⟨ds,Γ1,e2,e3⟩:=uP e1;obtain⟨e4,rfl⟩:=u6 e3;refine⟨G,I,Γ,ds,_,r,e2,λvs H1 I1 r1 g1 h1=>?_⟩;show spD K g (vs++[]) H1 Q E;rw[Rx];unfold cvF at e4;cases e5:g (ds.map .val) with
 | none=>rw[e5] at e4;cases e4
 | some q =>
  obtain⟨rr,aZ⟩:=q;rw[e5] at e4;cases rr with
  | val d' =>
   cases e4;refine⟨H1,I1,ds.map .val,.val d,aZ,yk r1 h1,yn ds,e5,λv H' I' r' g' hv=>?_⟩;obtain⟨r2,g2⟩:=AS r1 r' g';exact kk v H' I' r2 (g1.trans g2) hv
  | fro d' =>
   cases e4;refine⟨H1,I1,ds.map .val,.fro d',aZ,yk r1 h1,yn ds,e5,λv H' I' r' g' hv=>?_⟩;obtain⟨r2,g2⟩:=AS r1 r' g';obtain⟨p,xs,rfl,f1,_,f3⟩:=hv;exact kk _ H' I' r2 (g1.trans g2) (Is.lst (RdK.of f1) f3)
  | own _=>cases e4
  | bor _=>cases e4
  | dic _=>cases e4
theorem t_co{K:PySem.W.Frag}{E:XK}:∀U H Q,tO K B (fn1 (coF g) t) U H Q->tCall (spD K g) [] E (tAD K B t) U H Q:=λU H Q q=>by
 obtain⟨G,I,Γ,d,ae,r,e1,kk⟩:=q;obtain⟨ds,Γ1,e2,e3⟩:=uP e1;obtain⟨e4,rfl⟩:=u6 e3;refine⟨G,I,Γ,ds,_,r,e2,λvs H1 I1 r1 g1 h1=>?_⟩;show spD K g (vs++[]) H1 Q E;rw[Rx];unfold coF at e4;cases e5:g (ds.map .val) with
 | none=>rw[e5] at e4;cases e4
 | some q =>
  obtain⟨rr,aZ⟩:=q;rw[e5] at e4;cases rr with
  | own d' =>
   cases e4;refine⟨H1,I1,ds.map .val,.own d,aZ,yk r1 h1,yn ds,e5,λv H' I' r' g' hv=>?_⟩;obtain⟨r2,g2⟩:=AS r1 r' g';obtain⟨q,xs,rfl,b2,b3,b4,b5,b6⟩:=hv;exact kk q xs H' I' r2 (g1.trans g2) b2 b3 (r1.gFree b4) (r1.apart b4) b6
  | fro d' =>
   obtain⟨nl,e4⟩:=ve e4;subst e4;refine⟨H1,I1,ds.map .val,.fro d,aZ,yk r1 h1,yn ds,e5,λv H' I' r' g' hv=>?_⟩;obtain⟨p,xs,rfl,f1,f2,f3⟩:=hv
   have new:∀b o,tupOf I1 I' b=some o->I1 b=some o\/H1 b=none:=λb o e=>by
    rcases AC e with z | ⟨_,z,_⟩
    ·exact .inl z
    ·exact g'.new b o z
   have r2:Rep K B G (tupOf I1 I') H' U _:=r1.ext EY r'.gH (λb o e=>by
    rcases AC e with z | ⟨_,z,_⟩
    ·exact r'.iH b o (g'.up b o z)
    ·exact r'.iH b o z) new
   refine kk p xs H' (tupOf I1 I') r2 (g1.trans ⟨EY,λb o e=>(new b o e).imp (λz=>z) λz=>r1.gFree z⟩) (r'.iH p _ f1) ?_ (r1.gFree f2) (r1.apart f2) (Ck g'.up _ _ nl f3);cases e:tupOf I1 I' p with
   | none=>rfl
   | some o =>
    rcases AC e with z | ⟨_,z,zn⟩
    ·rw[r1.iFree f2] at z;cases z
    ·rw[f1] at z;cases z;exact absurd rfl (zn _)
  | val _=>cases e4
  | bor _=>cases e4
  | dic _=>cases e4
variable {t6:Nat}{b:L_}
theorem uV(F:FnOk X.prog X.w X.K X.mg X.base CX0 k f fd ps (spD X.K g))(hr:Room k X.A)(hg:Gl X x)(hm:X.mg x=some (.ref f))(hk:PySem.W.keepIn X.K (.ref f)=true)(hb:Binds X.K fd ps [])(ha:AD X B (e::es) t)(bi:(x == ("__debug__":Str))=false:=by decide)(he:f_ (e::es) X.env=(false,eval e X.env)::f_ es X.env:=by rfl)(aB:(P_ pos (f_ es X.env)).any (·.1)=false:=by rfl):
  ED X B (.Call (.Name x p) (e::es) [] pos) (fn1 (cvF g) t):=PE.imp (yR F hr hg hm hk hb .nil pass0 ha bi he aB) t_cv
theorem vP(F:FnOk X.prog X.w X.K X.mg X.base CX0 k f fd ps (spD X.K g))(hr:Room k X.A)(hg:Gl X x)(hm:X.mg x=some (.ref f))(hk:PySem.W.keepIn X.K (.ref f)=true)(hb:Binds X.K fd ps [])(ha:AD X B (e::es) t)(bi:(x == ("__debug__":Str))=false:=by decide)(he:f_ (e::es) X.env=(false,eval e X.env)::f_ es X.env:=by rfl)(aB:(P_ pos (f_ es X.env)).any (·.1)=false:=by rfl):
  EO X B (.Call (.Name x p) (e::es) [] pos) (fn1 (coF g) t):=PE.imp (yR F hr hg hm hk hb .nil pass0 ha bi he aB) t_co
noncomputable def hide(H:Hp)(p:g_):Hp:=λb=>if b=p then none else H b
theorem Dd{H:Hp}{p:g_}:hide H p p=none:=by unfold hide;rw[if_pos rfl]
theorem wZ{H:Hp}{p b:g_}(h:b≠p):hide H p b=H b:=by unfold hide;rw[if_neg h]
theorem OV{H:Hp}{p:g_}:Same (hide H p) H:=λb o e=>by
 by_cases h:b=p
 ·subst h;rw[Dd] at e;cases e
 ·rw[wZ h] at e;exact e
noncomputable def bcF(g:List R->Option (R×List R))(c ds:List D):Option (R×List D):=match g (.bor c::ds.map .val) with
 | some (r,.bor c'::_)=>some (r,c')
 | _=>none
noncomputable def callB(i:Nat)(g:List R->Option (R×List R))(t:M (List D)):M R:=mutS i (bnd t λds=>λΓ1=>match Γ1[i]? with
 | some (some (.own c))=>match bcF g c ds with
  | some (r,c')=>some (r,Γ1.set i (some (.own c')))
  | none=>none
 | some (some (.bor c))=>match bcF g c ds with
  | some (r,c')=>some (r,Γ1.set i (some (.bor c')))
  | none=>none
 | _=>none)
noncomputable def asV(r:R):Option D:=match r with
 | .val d=>some d
 | _=>none
noncomputable def asO(r:R):Option (List D):=match r with
 | .own d=>some d
 | _=>none
noncomputable def cbV(i:Nat)(g:List R->Option (R×List R))(t:M (List D)):M D:=bnd (callB i g t) λr=>lft (asV r)
noncomputable def cbO(i:Nat)(g:List R->Option (R×List R))(t:M (List D)):M (List D):=bnd (callB i g t) λr=>lft (asO r)
theorem Rep.extBut{K:PySem.W.Frag}{H:Hp}(r:Rep K B G I H U Γ){q:g_}(ap:Apart U Γ q)(gq:G q=none)(iq:I q=none)(t7:I' q=none)(hI:Same I I')(hH:∀b o,H b=some o->b≠q->H' b=some o)(iH:Same I' H')(new:∀b o,I' b=some o->I b=some o\/H b=none\/b=q):Rep K B G I' H' U Γ where
 iH:=iH
 gH:=λb o e=>hH b o (r.gH b o e) (λz=>by subst z;rw[gq] at e;cases e)
 len:=r.len
 slot:=λi qr e=>by
  obtain⟨v,e1,e2⟩:=r.slot i qr e;refine⟨v,e1,?_⟩
  have mt:qr.ptr=true->∀ds,Mt K G I H ds v->Mt K G I' H' ds v:=λm ds h=>by
   obtain⟨p2,xs,h1,h2,h3,h4,h5⟩:=h;have ne:p2≠q:=λz=>ap i qr e m (by rw[e1,h1,z])
   refine⟨p2,xs,h1,hH _ _ h2 ne,?_,h4,h5.mono hI⟩;cases z:I' p2 with
   | none=>rfl
   | some o =>
    rcases new p2 o z with z1 | z1 | z1
    ·rw[h3] at z1;cases z1
    ·rw[h2] at z1;cases z1
    ·exact absurd z1 ne
  cases qr with
  | val d=>exact Is.mono hI e2
  | dic ds =>
   obtain⟨p2,xs,h1,h2,h3,h4,h5⟩:=e2;have ne:p2≠q:=λz=>ap i _ e rfl (by rw[e1,h1,z])
   refine⟨p2,xs,h1,hH _ _ h2 ne,?_,h4,h5.mono hI⟩;cases z:I' p2 with
   | none=>rfl
   | some o =>
    rcases new p2 o z with z1 | z1 | z1
    ·rw[h3] at z1;cases z1
    ·rw[h2] at z1;cases z1
    ·exact absurd z1 ne
  | own ds=>exact mt rfl ds e2
  | bor ds=>exact mt rfl ds e2
  | fro ds=>obtain⟨p,xs,f1,f2,f3,f4⟩:=e2;exact⟨p,xs,f1,hI _ _ f2,f3,f4.mono hI⟩
 dist:=r.dist
 bor:=r.bor
theorem borrow{K:PySem.W.Frag}{H:Hp}{i:Nat}{q q':R}{c':List D}{ws:List V}{Q:VK}{E:XK}(r:Rep K B G I H U Γ)(hq:Γ[i]?=some (some q))(hc:(q=.own c/\q'=.own c')\/(q=.bor c/\q'=.bor c'))(hd:IsA K I ds ws)(iC:U[i]?=some (some v0))(hg:bcF g c ds=some (rr,c'))(k:∀v H' I',Rep K B G I' H' U (Γ.set i (some q'))->Grow G I I'->ResOk K G I' H' U (Γ.set i (some q')) rr v->Q v H'):spD K g (v0::ws) H Q E:=by
 obtain⟨v,e1,e2⟩:=r.slot i q hq;rw[iC] at e1;cases e1;have hm:q.ptr=true:=by rcases hc with⟨rfl,_⟩ | ⟨rfl,_⟩<;>rfl
 have mt:Mt K G I H c v0:=by rcases hc with⟨rfl,_⟩ | ⟨rfl,_⟩<;>exact e2
 obtain⟨a,xs,rfl,h1,h2,h3,h4⟩:=mt;unfold bcF at hg;cases e3:g (.bor c::ds.map .val) with
 | none=>rw[e3] at hg;cases hg
 | some z =>
  obtain⟨r0,aZ⟩:=z;rw[e3] at hg;cases aZ with
  | nil=>cases hg
  | cons y aZ =>
   cases y with
   | val _=>cases hg
   | own _=>cases hg
   | fro _=>cases hg
   | dic _=>cases hg
   | bor c2 =>
    cases hg;refine⟨hide H a,I,.bor c::ds.map .val,rr,.bor c'::aZ,?_,by rw[Sd,yn];rfl,e3,λv H' I' r' g' hv=>?_⟩
    ·have rv:=yk r hd
     exact {
      iH:=r.iH,gH:=OV
      len:=by rw[Q7,Q7,Rp,Rp,rv.len]
      slot:=λj qr e=>by
       cases j with
       | zero=>cases e;exact⟨_,rfl,a,xs,rfl,h1,h2,Dd,h4⟩
       | succ j =>
        obtain⟨w,e4,e5⟩:=rv.slot j qr (by simpa using e);refine⟨w,by simpa using e4,?_⟩;have e9:((ds.map R.val).map some)[j]?=some (some qr):=e;obtain⟨z,f1,f2⟩:=getMap e9;cases f2;obtain⟨d,f3,rfl⟩:=getMap f1;exact e5
      dist:=λj l qr t8 w e e' m m' s1 s2=>by
       have only:∀{j:Nat}{qr:R},((R.bor c::ds.map R.val).map some)[j]?=some (some qr)->qr.ptr=true->j=0:=λ{j qr} e m=>by
        cases j with
        | zero=>rfl
        | succ j =>
         have e9:((ds.map R.val).map some)[j]?=some (some qr):=e;obtain⟨z,f1,f2⟩:=getMap e9;cases f2;obtain⟨d,f3,rfl⟩:=getMap f1;cases m
       rw[only e m,only e' m']
      bor:=λj es e=>rfl }
    ·obtain⟨w,e4,e5⟩:=r'.slot 0 (.bor c') rfl;cases e4;obtain⟨a',cb,e6,f1,f2,f3,f4⟩:=e5;cases e6
     have cG:Apart U (Γ.set i none) a:=λj r1 z m s=>by
      rcases vf z with⟨_,z',_⟩ | ⟨n,z'⟩
      ·cases z'
      ·exact n (r.dist j i r1 q _ z' hq m hm s iC)
     have r1:=(r.forget i).extBut (q:=a) cG h3 h2 f2 g'.up (λb o e n=>r'.gH b o (by rw[wZ n];exact e)) r'.iH (λb o e=>by
      rcases g'.new b o e with z | z
      ·exact .inl z
      ·by_cases n:b=a
       ·exact .inr (.inr n)
       ·rw[wZ n] at z;exact .inr (.inl z))
     have r2:=r1.learn (i:=i) (q:=q') (v:=.ref a) iC (by rcases hc with⟨_,rfl⟩ | ⟨_,rfl⟩<;>exact⟨a,cb,rfl,f1,f2,h3,f4⟩) (λm p2 e j r' n z m' s=>by
      cases e;exact cG j r' z m' s) (λes z=>by
      rcases hc with⟨_,rfl⟩ | ⟨rfl,rfl⟩
      ·cases z
      ·exact r.bor i c hq)
     rw[Xc] at r2
     have g2:Grow G I I':=⟨g'.up,λb o e=>by
      rcases g'.new b o e with z | z
      ·exact .inl z
      ·by_cases n:b=a
       ·subst n;exact .inr h3
       ·rw[wZ n] at z;exact .inr (r.gFree z)⟩
     refine k v H' I' r2 g2 ?_;cases rr with
     | val d=>exact hv
     | bor d=>exact hv
     | fro d =>
      obtain⟨p2,ys,b1,b2,b3,b4⟩:=hv;have ne:p2≠a:=λz=>by rw[z,f2] at b2;cases b2
      rw[wZ ne] at b3;exact⟨p2,ys,b1,b2,r.gFree b3,b4⟩
     | dic d =>
      obtain⟨p2,ys,b1,b2,b3,b4,b5,b6⟩:=hv;have ne:p2≠a:=λz=>b5 0 (.bor c') rfl rfl (by rw[z];rfl)
      rw[wZ ne] at b4;refine⟨p2,ys,b1,b2,b3,r.gFree b4,λj r3 z m s=>?_,b6⟩
      rcases vf z with⟨rfl,z',_⟩ | ⟨n,z'⟩
      ·rw[iC] at s;cases s;exact ne rfl
      ·exact r.apart b4 j r3 z' m s
     | own d =>
      obtain⟨p2,ys,b1,b2,b3,b4,b5,b6⟩:=hv;have ne:p2≠a:=λz=>b5 0 (.bor c') rfl rfl (by rw[z];rfl)
      rw[wZ ne] at b4;refine⟨p2,ys,b1,b2,b3,r.gFree b4,λj r3 z m s=>?_,b6⟩
      rcases vf z with⟨rfl,z',_⟩ | ⟨n,z'⟩
      ·rw[iC] at s;cases s;exact ne rfl
      ·exact r.apart b4 j r3 z' m s
theorem Dg{i:Nat}{t:M (List D)}(h:callB i g t Γ=some (rr,ae)):isMut Γ i=true/\∃ds Γ1 q q' c c',t Γ=some (ds,Γ1)/\Γ1[i]?=some (some q)/\((q=.own c/\q'=.own c')\/(q=.bor c/\q'=.bor c'))/\bcF g c ds=some (rr,c')/\ae=Γ1.set i (some q'):=by
 obtain⟨hm,h⟩:=xH h;obtain⟨ds,Γ1,e1,e2⟩:=uP h;refine⟨hm,ds,Γ1,?_⟩;cases e:Γ1[i]? with
 | none=>simp only[e] at e2;cases e2
 | some o =>
  cases o with
  | none=>simp only[e] at e2;cases e2
  | some q =>
   cases q with
   | val d=>simp only[e] at e2;cases e2
   | fro d=>simp only[e] at e2;cases e2
   | dic d=>simp only[e] at e2;cases e2
   | own c =>
    simp only[e] at e2;cases e3:bcF g c ds with
    | none=>simp only[e3] at e2;cases e2
    | some z =>
     obtain⟨r0,c'⟩:=z;simp only[e3] at e2;cases e2;exact⟨.own c,.own c',c,c',e1,rfl,.inl ⟨rfl,rfl⟩,e3,rfl⟩
   | bor c =>
    simp only[e] at e2;cases e3:bcF g c ds with
    | none=>simp only[e3] at e2;cases e2
    | some z =>
     obtain⟨r0,c'⟩:=z;simp only[e3] at e2;cases e2;exact⟨.bor c,.bor c',c,c',e1,rfl,.inr ⟨rfl,rfl⟩,e3,rfl⟩
theorem Ni{K:PySem.W.Frag}{E:XK}{i:Nat}:∀U H Q,tD K B (cbV i g t) U H Q->tCall (spD K g) [] E (tCons (tVar i) (tAD K B t)) U H Q:=λU H Q q=>by
 obtain⟨G,I,Γ,d,ae,r,e1,kk⟩:=q;obtain⟨rr,qu,e2,e3⟩:=uP e1;obtain⟨e4,rfl⟩:=u6 e3;obtain⟨hm,ds,Γ1,q,q',c,c',f1,f2,f3,f4,rfl⟩:=Dg e2;obtain⟨a,xs,h1,h2⟩:=xb hm r;refine⟨_,h1,G,I,Γ,ds,Γ1,r,f1,λws H1 I1 r1 g1 hd=>?_⟩;show spD K g ((.ref a::ws)++[]) H1 Q E;rw[Rx];refine borrow r1 f2 f3 hd h1 f4 λv H' I' r' g' hv=>?_
 cases rr with
 | val d'=>cases e4;exact kk v H' I' r' (g1.trans g') hv
 | own _=>cases e4
 | bor _=>cases e4
 | fro _=>cases e4
 | dic _=>cases e4
theorem M1{K:PySem.W.Frag}{E:XK}{i:Nat}:∀U H Q,tO K B (cbO i g t) U H Q->tCall (spD K g) [] E (tCons (tVar i) (tAD K B t)) U H Q:=λU H Q q=>by
 obtain⟨G,I,Γ,d,ae,r,e1,kk⟩:=q;obtain⟨rr,qu,e2,e3⟩:=uP e1;obtain⟨e4,rfl⟩:=u6 e3;obtain⟨hm,ds,Γ1,q,q',c,c',f1,f2,f3,f4,rfl⟩:=Dg e2;obtain⟨a,xs,h1,h2⟩:=xb hm r;refine⟨_,h1,G,I,Γ,ds,Γ1,r,f1,λws H1 I1 r1 g1 hd=>?_⟩;show spD K g ((.ref a::ws)++[]) H1 Q E;rw[Rx];refine borrow r1 f2 f3 hd h1 f4 λv H' I' r' g' hv=>?_
 cases rr with
 | own d' =>
  cases e4;obtain⟨p2,ys,rfl,b2,b3,b4,b5,b6⟩:=hv;exact kk p2 ys H' I' r' (g1.trans g') b2 b3 b4 b5 b6
 | val _=>cases e4
 | bor _=>cases e4
 | fro _=>cases e4
 | dic _=>cases e4
theorem vd{i:Nat}(F:FnOk X.prog X.w X.K X.mg X.base CX0 k f fd ps (spD X.K g))(hr:Room k X.A)(hg:Gl X x)(hm:X.mg x=some (.ref f))(hk:PySem.W.keepIn X.K (.ref f)=true)(hb:Binds X.K fd ps [])(hv:PE X (.Name y py) (tVar i))(ha:AD X B es t)(bi:(x == ("__debug__":Str))=false:=by decide)(he:f_ (.Name y py::es) X.env=(false,eval (.Name y py) X.env)::f_ es X.env:=by rfl)(aB:(P_ pos (f_ es X.env)).any (·.1)=false:=by rfl):
  ED X B (.Call (.Name x p) (.Name y py::es) [] pos) (cbV i g t):=PE.imp (yR F hr hg hm hk hb .nil pass0 (vI hv ha he) bi he aB) Ni
theorem AN{i:Nat}(F:FnOk X.prog X.w X.K X.mg X.base CX0 k f fd ps (spD X.K g))(hr:Room k X.A)(hg:Gl X x)(hm:X.mg x=some (.ref f))(hk:PySem.W.keepIn X.K (.ref f)=true)(hb:Binds X.K fd ps [])(hv:PE X (.Name y py) (tVar i))(ha:AD X B es t)(bi:(x == ("__debug__":Str))=false:=by decide)(he:f_ (.Name y py::es) X.env=(false,eval (.Name y py) X.env)::f_ es X.env:=by rfl)(aB:(P_ pos (f_ es X.env)).any (·.1)=false:=by rfl):
  EO X B (.Call (.Name x p) (.Name y py::es) [] pos) (cbO i g t):=PE.imp (yR F hr hg hm hk hb .nil pass0 (vI hv ha he) bi he aB) M1
end
end DL
variable{it:DL.M (List DL.D)}{tc gc:DL.M Bool}{az:DL.D->DL.M Unit}{gl gh:DL.M (Option Int)}{m':DL.M Nat}{ga el:DL.M DL.D}
namespace DL
open PySem PySem.Spec PyProof.Rows L2
noncomputable def relab(sc cV:Te):Te:={ sc with names:=sc.names.map λ(n,k)=>if(k == .free&&cV.kind == .function&&cV.names.lookup n == some .cell) then(n,.cell) else(n,k) }
noncomputable def clo(cells:List (Str×g_)):List (Str×RE)->List (Str×g_)->List (Str×g_)
 | [],af=>af
 | (n,k)::r,af=>if k == .free then clo cells r ((n,(cells.lookup n).getD 0)::af) else clo cells r af
theorem DM{env:Env}(f:Str×RE->List (Str×g_)->Sem (ForInStep (List (Str×g_))))(hf:∀name kind cs,f (name,kind) cs=if kind == .free then(do let a ←cellOf env name;pure (.yield ((name,a)::cs))) else pure (.yield cs)):
  ∀(names:List (Str×RE)) (af:List (Str×g_)),(∀n,(n,RE.free)∈names->∃c,env.cells.lookup n=some c)->(forIn names af f:Sem _)=pure (clo env.cells names af)
 | [],af,_=>by rw[Uq];rfl
 | (n,k)::r,af,h=>by
  rw[S4,hf];unfold clo;have ih:=λnR=>DM f hf r nR (λn hn=>h n (s_ _ hn))
  by_cases hk:(k == RE.free)=true
  ·rw[if_pos hk,if_pos hk];have bQ:k=.free:=by simpa using hk
   subst bQ;obtain⟨c,hc⟩:=h n v_;have e:cellOf env n=pure c:=by unfold cellOf;rw[hc]
   rw[e,hc];simp only[pure_bind,Option.getD_some];exact ih _
  ·rw[if_neg hk,if_neg hk];simp only[pure_bind];exact ih _
theorem FW(h:∀n,(n,RE.free)∈scope.names->∃c,env.cells.lookup n=some c):Ve scope env=pure (clo env.cells scope.names []):=by
 unfold Ve;dsimp only;rw[DM (env:=env) _ (λname kind cs=>by cases hk:kind == RE.free<;>simp[hk]) scope.names [] h];rfl
theorem zS{cells:List (Str×g_)}:∀{names:List (Str×RE)}{af:List (Str×g_)}{x:Str}{c:g_},(x,c)∈clo cells names af->(x,c)∈af\/((x,RE.free)∈names/\c=(cells.lookup x).getD 0)
 | [],af,x,c,h=>.inl h
 | (n,k)::r,af,x,c,h=>by
  unfold clo at h;by_cases hk:(k == RE.free)=true
  ·rw[if_pos hk] at h;have bQ:k=.free:=by simpa using hk
   subst bQ
   rcases zS h with z | ⟨z1,z2⟩
   ·rcases A_.mp z with z | z
    ·cases z;exact .inr ⟨v_,rfl⟩
    ·exact .inl z
   ·exact .inr ⟨s_ _ z1,z2⟩
  ·rw[if_neg hk] at h
   rcases zS h with z | ⟨z1,z2⟩
   ·exact .inl z
   ·exact .inr ⟨s_ _ z1,z2⟩
theorem AB{cells:List (Str×g_)}:∀{names:List (Str×RE)}{af:List (Str×g_)}{x:Str},((x,RE.free)∈names\/∃c,af.lookup x=some c)->∃c,(clo cells names af).lookup x=some c
 | [],af,x,h=>by
  rcases h with h | h
  ·cases h
  ·exact h
 | (n,k)::r,af,x,h=>by
  unfold clo
  have push:∀c0:g_,(∃c,af.lookup x=some c)->∃c,((n,c0)::af).lookup x=some c:=λc0 ⟨c,hc⟩=>by
   rw[U0];cases x == n
   ·exact⟨c,hc⟩
   ·exact⟨c0,rfl⟩
  by_cases hk:(k == RE.free)=true
  ·rw[if_pos hk];refine AB ?_
   rcases h with h | h
   ·rcases A_.mp h with z | z
    ·cases z;exact .inr ⟨_,by rw[U0,beq_self_eq_true]⟩
    ·exact .inl z
   ·exact .inr (push _ h)
  ·rw[if_neg hk];refine AB ?_
   rcases h with h | h
   ·rcases A_.mp h with z | z
    ·cases z;exact absurd (by rfl) hk
    ·exact .inl z
   ·exact .inr h
structure CompScope(cV sc:Te)(N N':List Str)(m:Nat):Prop where
 kind:sc.kind=.function
 nocell:∀y∈sc.names,y.2≠.cell
 locals:∀y∈sc.names,y.2=.local->sc.names.lookup y.1=some .local
 free:∀y∈sc.names,y.2=.free->cV.names.lookup y.1=some .cell\/cV.names.lookup y.1=some .free
 nd:N'.Nodup
 len:N'.length=m+N.length
 up:∀p∈(N'.drop m).zip N,((relab sc cV).names.lookup p.1=none)\/(p.1=p.2/\(relab sc cV).names.lookup p.1≠some .local)
noncomputable def cxC(X:Cx)(scope:Te)(N':List Str)(C:g_)(s:c_)(H:Hp)(ex:List g_):Cx:=
 { X with N:=N',s₀:=s,H₀:=H,env:=compEnvC scope (clo X.env.cells scope.names []) C X.env,outer:=X.stack,stack:=X.stack,ex:=ex,fn:=λ_=>false,pn:=[],xe:=λ_ _=>False }
def PTs(X:Cx)(bg:List L_)(t:TT):Prop:=
 ∀(aa:List (g_×Obj)) (s:c_) (U:L2.St) (H:Hp) (Q:Bool->Hp->Prop),Inv X aa U H s->t U H Q →
  m_ (l_ X.prog X.w) X.A (forIn bg true λc r=>if r=true then do let ok ←WP c X.env (eval c X.env);pure (WV ok) else pure (WV r)) (TP X aa U Q) X.xe s
theorem Nx:PTs X [] (λ_ H Q=>Q true H):=λaa s U H Q I h=>wpAny_tests_nil ⟨H,I,h⟩
theorem J4{c:L_}{t:TT}(h:PT X c t):PTs X [c] t:=λaa s U H Q I q=>wpAny_tests_one (h aa s U H Q I q)
abbrev calm(P:u_)(w:C_)(A:Rh){α:Type}(m:Sem α)(Q:α->c_->Prop)(s:c_):Prop:=m_ (l_ P w) A m Q (λ_ _=>False) s
theorem calm.on{P:u_}{w:C_}{α Y:Type}{m:Sem α}{f:α->Sem Y}{Q:α->c_->Prop}{K:Y->c_->Prop}{E:b_->c_->Prop}{s:c_}(h:calm P w A m Q s)(k:∀a s',Q a s'->m_ (l_ P w) A (f a) K E s'):m_ (l_ P w) A (m >>= f) K E s:=
 a_ (Q9 h k λ_ _ no=>no.elim)
def TurnMeets(P:u_)(w:C_)(A:Rh)(cW jI:b_)(tg bA:L_)(bg:List L_)(env:Env)(Er:b_->c_->Prop)(WC out:c_->Prop)(s:c_):Prop:=
 calm P w A (Sm cW) (λfM s=>match fM with
  | none=>out s
  | some v=>calm P w A (T7 tg cW v) (λ_ s=>calm P w A (Us tg env v) (λ_ s =>
    calm P w A (forIn bg true λc r=>if r=true then do let ok ←WP c env (eval c env);pure (WV ok) else pure (WV r)) (λlF s =>
     cond lF (m_ (l_ P w) A (eval bA env) (λx s=>calm P w A (call (.builtin "list.append") [jI,x]) (λ_ s=>WC s) s) (Xd (l_ P w) A env Er) s) (WC s)) s) s) s) s
theorem LK{M:WB}{E E':b_->c_->Prop}{x:b_}{s:c_}(h:Xd M A env E x s)(f:∀x s,E x s->E' x s):Xd M A env E' x s:=Q9 h (λ_ _ q=>f _ _ q) f
theorem NJ{P:u_}{w:C_}{out:WR->c_->Prop}{s:c_}{bA lG:L_}{sc:Te}{bj:Pos}{cW jI:b_}{Er:b_->c_->Prop}(qv:∀x s,Er x s->out (.error x) s)(W:Nat->c_->Prop)(iD:∀left s,W left s->TurnMeets P w A cW jI tg bA bg env Er (λs'=>∃WW,WW < left/\W WW s') (out (.ok .next)) s)(left:Nat)(start:W left s):
  RS (l_ P w) A (.compLoop (.ListComp bA [⟨tg,lG,bg,0⟩] sc bj) 0 cW jI env) out s:=by
 refine codeAny_loop rfl W (λleft s here=>?_) left start;have turn:=iD left s here;unfold TurnMeets at turn;refine wpAny_noted ?_;rw[compTurn_list];refine a_ (VZ (turn.on λfM s1 h1=>?_));cases fM with
 | none=>exact d_ h1
 | some v=>exact calm.on h1 λ_ _ h2=>calm.on h2 λ_ _ h3=>calm.on h3 λlF s4 h4=>match lF,h4 with
  | false,h4=>d_ (And.intro rfl h4)
  | true,h4=>a_ (a_ (Q9 h4 (λ_ _ h5=>calm.on h5 λ_ _ h6=>d_ (d_ (And.intro rfl h6))) λ_ _ z=>LK z qv))
def Clear(X:Cx)(aa:List (g_×Obj))(H:Hp)(C:g_):Prop:=H C=none/\C≠X.env.locals/\X.s₀.heap.objs.size<=C/\(∀x c,X.env.cells.lookup x=some c->c≠C)/\∀p∈X.pn++aa,p.1≠C
theorem Inv.clear{H:Hp}{s:c_}(I:Inv X aa U H s)(c:Clear X aa H C)(hs:K_.SameBut C s.heap h'):Inv X aa U H { s with heap:=h' }:=
 I.turned (t':=s.toks) (λb o hb e=>(hs.2 b hb).trans e) c.1 c.2.1 (.inr c.2.2.1) c.2.2.2.1 c.2.2.2.2
structure Within(X:Cx)(aa:List (g_×Obj))(U:L2.St)(X1:Cx):Prop where
 back:∀{ps:List (g_×Obj)}{ai:L2.St}{H':Hp}{s':c_},Inv X1 ps ai H' s'->Inv X aa U H' s'/\Clear X aa H' X1.env.locals
 old:∀b o,X.s₀.heap.get? b=some o->b∉X.ex->∃o',X1.s₀.heap.get? b=some o'/\b∉X1.ex
 pin:∀p∈X.pn++aa,∃o',X1.s₀.heap.get? p.1=some o'/\p.1∉X1.ex
def CompW(m:Nat)(J:It)(g:TG)(tt:TT)(te:TE)(U:L2.St)(H1:Hp)(p:g_)(Q:VK):Prop:=
 ∃W:Nat->Nat->L2.St->Hp->Prop,(∃n,W 0 n (QY m none++U) (upd H1 p (.lst [])))/\∀i n ai H',W i n ai H' →
  (J.stop i H'/\Q (.ref p) H')\/(J.go i H'/\∀x H2,J.yld i H' x H2->g x ai H2 λaQ H3=>tt aQ H3 λb H4 =>
   if b=true then te aQ H4 λy H5=>∃af,H5 p=some (.lst af)/\af.length < D_/\∃n',n' < n/\W (i+1) n' aQ (upd H5 p (.lst (af++[y])))
   else ∃n',n' < n/\W (i+1) n' aQ H4)
section
variable{bA iter:L_}{N':List Str}{g:TG}{tt:TT}
theorem Fc{Er:g_->b_->c_->Prop}{it:g_}{tn:Nat->K_->Prop}{J:It}{Q:VK}{E:b_->c_->Prop}(S:CompScope X.env.scope scope X.N N' m)(hc:X.calm=true)(hg:∀C s H ex,PG (cxC X scope N' C s H ex) tg g)(ht:∀C s H ex,PTs (cxC X scope N' C s H ex) bg tt)(he:∀C s H ex,Within X aa U (cxC X scope N' C s H ex)->PE ((cxC X scope N' C s H ex).wish (Xd (l_ X.prog X.w) X.A (compEnvC scope (clo X.env.cells scope.names []) C X.env) (Er C))) bA te)(I2:Inv X aa U H2 s2)(T:Turn X.prog X.w X.K tg J fp it tn)(fb:tn 0 s2.heap)(f2:∀b∈fp,FpOk X aa H2 b)(hw:∀p,H2 p=none->CompW m J g tt te U H2 p Q):
  m_ (l_ X.prog X.w) X.A (newList []) (λaf s3=>m_ (l_ X.prog X.w) X.A (newFunctionEnv scope X.env.globals (clo X.env.cells scope.names []) [] X.env.qual none .none (some X.env)) (λdf s4 =>
   RS (l_ X.prog X.w) X.A (.compStart (.ListComp bA [⟨tg,iter,bg,0⟩] scope pos) 0 (.ref it) af { df with scope:=relabel scope X.env })
    (λr s'=>match r with | .ok _=>∃p H' mm,af=.ref p/\s'.heap.Ns df.locals mm/\Inv X aa U H' s'/\Clear X aa H' df.locals/\Q (.ref p) H' | .error x=>Er df.locals x s') s4) E s3) E s2:=by
 refine M_ (VC S.nocell (by intro y hy;simp at hy) (λh1 kN kO=>?_) S.kind);dsimp only at kN kO ⊢
 -- the new list
 have hp:H2 s2.heap.objs.size=none:=I2.hok.fresh (x_ _);obtain⟨W,⟨n0,w0⟩,turn⟩:=hw _ hp;obtain⟨p,hP⟩:∃p,p=s2.heap.objs.size:=⟨_,rfl⟩;obtain⟨s3,lH⟩:∃s3:c_,s3={ s2 with heap:=s2.heap.push { cls:=.type "list", dict:=none,data:=.seq ([]:List b_).toArray } }:=⟨_,rfl⟩;obtain⟨C,hC⟩:∃C,C=s3.heap.objs.size:=⟨_,rfl⟩;obtain⟨H3,lI⟩:∃H3,H3=upd H2 p (.lst []):=⟨_,rfl⟩;have h3:s3.heap=s2.heap.push { cls:=.type "list", dict:=none,data:=.seq ([]:List b_).toArray }:=by rw[lH]
 have fN:h1.Ns C (λx=>([]:List (Str×b_)).reverse.lookup x):=by rw[hC,h3];exact kN
 have jJ:K_.SameBut C (s3.heap.push { cls:=.type "dict", data:=.dict #[] }) h1:=by rw[hC,h3];exact kO
 rw[←hP] at hp;have qw:W 0 n0 (QY m none++U) H3:=by rw[lI,hP];exact w0
 have lJ:∀i n ai H',W i n ai H'->(J.stop i H'/\Q (.ref p) H')\/(J.go i H'/\∀x H2,J.yld i H' x H2->g x ai H2 λaQ H3=>tt aQ H3 λb H4 =>
   if b=true then te aQ H4 λy H5=>∃af,H5 p=some (.lst af)/\af.length < D_/\∃n',n' < n/\W (i+1) n' aQ (upd H5 p (.lst (af++[y])))
   else ∃n',n' < n/\W (i+1) n' aQ H4):=by rw[hP];exact turn
 have I3:Inv X aa U H3 s3:=by
  rw[lI,lH,hP];exact I2.laid (t':=s2.toks) (λb u e=>e_ _ e) (x_ _) ⟨Rw _,[],0,.nil,r_ _ rfl⟩
 have gP:tn 0 s3.heap:=T.keep _ _ _ fb λb _ o e=>by rw[h3];exact e_ _ e
 have f3:∀b∈fp,FpOk X aa H3 b:=λb hb=>by
  obtain⟨a0,a1⟩:=f2 b hb;refine⟨?_,a1⟩;obtain⟨o,e,_⟩:=T.obj _ _ fb b hb
  have ne:b≠p:=λz=>by
   have:=w_ e;rw[←hP,z] at this;exact RZ _ this
  rw[lI,uS ne];exact a0
 -- the block's context
 have bJ:∀x c,(clo X.env.cells scope.names []).lookup x=some c->X.env.cells.lookup x=some c:=λx c e=>by
  rcases zS (mem_of_lookup e) with z | ⟨z1,z2⟩
  ·cases z
  ·obtain⟨c',aO⟩:=I2.ok.has x (S.free _ z1 rfl);rw[aO] at z2;rw[z2];exact aO
 have gB:Clear X aa H3 C:=by
  refine⟨?_,?_,?_,λx c e z=>?_,λq hq z=>?_⟩
  ·exact I3.hok.fresh (Wj hC.symm)
  ·have:=I3.lt;rw[←hC] at this;exact Tg this
  ·have:=I3.sz;rw[←hC] at this;exact this
  ·obtain⟨v,q⟩:=I3.cell x c e;have:=q.lt;rw[←hC,z] at this;exact RZ _ this
  ·have:=w_ (I3.pin q hq).1;rw[←hC,z] at this;exact RZ _ this
 have old:∀b o,s3.heap.get? b=some o->h1.get? b=some o:=λb o e=>by
  have ne:b≠C:=λz=>by have:=w_ e;rw[←hC,z] at this;exact RZ _ this
  exact(jJ.2 b ne).trans (e_ _ e)
 have ok:(cxC X scope N' C s3 H3 fp).Ok:=by
  refine⟨I3.ok.mod,S.kind,I3.ok.glob,I3.ok.blt,Wj hC.symm,λx y c e1 e2=>I3.ok.inj x y c (bJ x c e1) (bJ y c e2),λx hx=>?_,λx c z=>(nomatch z),λz=>I3.ok.hd z,I3.ok.frames,.inl rfl,λb hb=>⟨λz=>?_,λx c e=>(f3 b hb).2.2.2.2.1 x c (bJ x c e)⟩,I3.bs,z_ I3.ok.bsz I3.sz,λb o e hb=>?_,λb hb z=>?_,I3.stack,λb hb=>I3.stkFree b hb,λc P h=>I3.base.tbls P _ (I3.ok.tb c P h)⟩
  ·-- has
   have lK:(relab scope X.env.scope).names.lookup x=some .cell\/(relab scope X.env.scope).names.lookup x=some .free:=hx
   have mem:∃k,(x,k)∈(relab scope X.env.scope).names/\(k=RE.cell\/k=RE.free):=by
    rcases lK with z | z
    ·exact⟨_,mem_of_lookup z,.inl rfl⟩
    ·exact⟨_,mem_of_lookup z,.inr rfl⟩
   obtain⟨k,hm,hk⟩:=mem;obtain⟨⟨n1,k1⟩,dM,e1⟩:=Re.mp hm;refine AB (.inl ?_);dsimp only at e1;by_cases hcond:(k1 == RE.free&&X.env.scope.kind == ScopeKind.function&&X.env.scope.names.lookup n1 == some RE.cell)=true
   ·rw[if_pos hcond] at e1;cases e1
    have:k1=.free:=by
     simp only[I_,beq_iff_eq] at hcond;exact hcond.1.1
    rw[←this];exact dM
   ·rw[if_neg hcond] at e1;cases e1
    rcases hk with rfl | rfl
    ·exact absurd rfl (S.nocell _ dM)
    ·exact dM
  ·obtain⟨o,e,_⟩:=T.obj _ _ gP b hb;have:=w_ e;rw[←hC] at this;have z':b=C:=z;rw[z'] at this;exact RZ _ this
  ·obtain⟨a0,a1,a2,a3,_⟩:=f3 b hb
   rcases a3 with z | z
   ·exact I3.ok.noex b o e z
   ·exact absurd (G_ (w_ e) (z_ I3.ok.bsz z)) (RZ _)
  ·have z':=I3.stkSub b z;obtain⟨a0,a1,a2,_⟩:=f3 b hb
   rcases A_.mp z' with e | e
   ·exact a1 e
   ·exact a2 e
 -- the block's first state
 have I4:Inv (cxC X scope N' C s3 H3 fp) [] (QY m none++U) H3 { s3 with heap:=h1,toks:=s3.toks+([]:List (Str×b_)).length }:=by
  obtain⟨mo,t9,nN⟩:=I3.loc;refine⟨ok,rfl,I3.bare,Un.kept old,⟨_,fN,λi x v e1 e2 e3=>?_⟩,λx c e=>?_,gB.1,λx c e=>I3.freeC x c (bJ x c e),λq hq=>absurd (show q∈([]:List (g_×Obj)) from hq) (by simp),I3.hok.kept old,?_⟩
  ·have hi:m<=i:=by
    by_cases z:m<=i
    ·exact z
    ·rw[RH (by rw[N_];omega),Sb] at e2;split at e2<;>cases e2
   rw[RO (by rw[N_];exact hi),N_] at e2;have eG:N'[i]?=some x:=e1
   have cN:i - m < X.N.length:=by
    have:=(n_.mp eG).1;rw[S.len] at this;omega
   have e4:(N'.drop m)[i - m]?=some x:=by rw[TK];rw[show m+(i - m)=i from by omega];exact eG
   have e5:X.N[i - m]?=some X.N[i - m]:=h_ cN;have e6:((N'.drop m).zip X.N)[i - m]?=some (x,X.N[i - m]):=by rw[SQ];exact⟨e4,e5⟩
   have nT:Vis (relab scope X.env.scope) x:=e3
   rcases S.up _ (Rg e6) with z | ⟨z1,z2⟩
   ·have z':(relab scope X.env.scope).names.lookup x=none:=z
    rcases nT with y | y | y<;>rw[z'] at y<;>cases y
   ·have qx:x=X.N[i - m]:=z1;have qy:(relab scope X.env.scope).names.lookup x≠some .local:=z2
    have nU:(relab scope X.env.scope).names.lookup x=some .cell\/(relab scope X.env.scope).names.lookup x=some .free:=by
     rcases nT with y | y | y
     ·exact absurd y qy
     ·exact .inl y
     ·exact .inr y
    obtain⟨c,cX⟩:=ok.has x nU;have qz:=bJ x c cX
    -- the name in the def's own frame
    have mem:(x,RE.free)∈scope.names:=by
     rcases zS (mem_of_lookup cX) with y | ⟨y,_⟩
     ·cases y
     ·exact y
    have nV:Vis X.env.scope x:=by
     rcases S.free _ mem rfl with y | y
     ·exact .inr (.inl y)
     ·exact .inr (.inr y)
    obtain⟨u,ru,l⟩:=nN (i - m) x v (by rw[e5,←qx]) e2 nV;refine⟨u,ru,.inr ⟨nU,c,cX,?_⟩⟩
    rcases l with⟨k,_⟩ | ⟨_,c',e',z'⟩
    ·have k':X.env.scope.names.lookup x=some .local:=k
     rcases S.free _ mem rfl with y | y<;>(have y':X.env.scope.names.lookup x=_:=y;rw[k'] at y';cases y')
    ·rw[qz] at e';cases e';exact z'.keeps old
  ·obtain⟨v,q⟩:=I3.cell x c (bJ x c e);exact⟨v,q.keeps old⟩
  ·show(QY m none++U).length=N'.length;rw[QZ,N_,S.len,I3.len]
 have dE:∀{H':Hp},(∀b∈fp,H' b=none)->∀b∈fp,FpOk (cxC X scope N' C s3 H3 fp) [] H' b:=λ{H'} hn b hb=>by
  refine⟨hn b hb,(ok.exf b hb).1,ok.exfs b hb,.inl hb,(ok.exf b hb).2,λq hq=>absurd (show q∈([]:List (g_×Obj)) from hq) (by simp)⟩
 -- what stands behind the block
 have back:∀{ps:List (g_×Obj)}{ai:L2.St}{H':Hp}{s':c_},Inv (cxC X scope N' C s3 H3 fp) ps ai H' s'->Inv X aa U H' s'/\Clear X aa H' C:=λ{ps ai H' s'} J'=>by
  refine⟨I3.call' J'.os J'.base J'.hok J'.bare λb hb=>?_,J'.free,gB.2⟩;obtain⟨a0,a1,a2,a3,a4,a5⟩:=f3 b hb;exact⟨a3,a1,a4,a5⟩
 have lL:Within X aa U (cxC X scope N' C s3 H3 fp):=⟨back,λb o e n=>by
  obtain⟨o',e'⟩:=I3.base.there b o e n;refine⟨o',e',λm=>?_⟩
  rcases(f3 b m).2.2.2.1 with z | z
  ·exact n z
  ·exact absurd (G_ (w_ e) z) (RZ _),λq hq=>⟨_,(I3.pin q hq).1,λm=>(f3 q.1 m).2.2.2.2.2 q hq rfl⟩⟩
 have aM:∀s4:c_,s4={ s3 with heap:=h1,toks:=s3.toks+([]:List (Str×b_)).length } →
   RS (l_ X.prog X.w) X.A (.compLoop (.ListComp bA [⟨tg,iter,bg,0⟩] scope pos) 0 (.ref it) (.ref p) (compEnvC scope (clo X.env.cells scope.names []) C X.env))
    (λr s'=>match r with | .ok _=>∃p' H' mm,b_.ref p=.ref p'/\s'.heap.Ns C mm/\Inv X aa U H' s'/\Clear X aa H' C/\Q (.ref p') H' | .error x=>Er C x s') s4:=by
  rintro s4 rfl;refine NJ (Er:=Er C) (λ_ _ z=>z) (λn s'=>∃i ai H',Inv (cxC X scope N' C s3 H3 fp) [] ai H' s'/\tn i s'.heap/\(∀b∈fp,H' b=none)/\W i n ai H') ?_ n0 ⟨0,_,_,I4,T.keep _ _ _ gP λb _ o e=>old b o e,λb hb=>(f3 b hb).1,qw⟩;rintro n s5 ⟨i,cF,H5,I5,gQ,jD,w5⟩;show TurnMeets _ _ _ _ _ _ _ _ _ _ _ _ _;unfold TurnMeets
  rcases lJ i n cF H5 w5 with⟨stop,qn⟩ | ⟨go,step⟩
  ·refine Q9 (T.done (cxC X scope N' C s3 H3 fp) rfl rfl rfl hc i [] s5 cF H5 (λ_ _=>False) I5 (dE jD) gQ stop) (λr s6 ⟨hr,I6⟩=>?_) λ_ _ z=>z
   subst hr;obtain⟨mm,qA,_⟩:=I6.loc;obtain⟨b1,b2⟩:=back I6;exact⟨p,H5,mm,rfl,qA,b1,b2,qn⟩
  ·refine Q9 (T.item (cxC X scope N' C s3 H3 fp) rfl rfl rfl hc i [] s5 cF H5 (λ_ _=>False) I5 (dE jD) gQ go) (λr s6 ⟨u,hr,h6⟩=>?_) λ_ _ z=>z
   subst hr;refine Q9 h6 (λ_ s7 ⟨x,H7,I7,r7,y7,lM,qB⟩=>?_) λ_ _ z=>z
   have qC:=I7.pinned (dE qB) (T.obj _ _ lM);refine Q9 (hg C s3 H3 fp _ s7 cF H7 x u _ qC r7 (step x H7 y7)) (λ_ s8 ⟨iE,H8,I8,q8⟩=>?_) λ_ _ z=>z
   refine Q9 (ht C s3 H3 fp _ s8 iE H8 _ I8 q8) (λok s9 ⟨H9,I9,q9⟩=>?_) λ_ _ z=>z
   have WC:∀{nW:L2.St}{Ha:Hp}{sa:c_},Inv (cxC X scope N' C s3 H3 fp) ([]++pinsAt fp s7.heap) nW Ha sa->tn (i+1) sa.heap/\(∀b∈fp,Ha b=none):=λ{nW Ha sa} Ia=>by
    refine⟨T.keep _ _ _ lM λb hb o e=>(Ia.pin (b,o) (Q1 _ (Q1 _ (Ap hb e)))).1,λb hb=>?_⟩;obtain⟨o,e,d⟩:=T.obj _ _ lM b hb;exact(Ia.pin (b,o) (Q1 _ (Q1 _ (Ap hb e)))).2.1
   cases ok with
   | false =>
    rw[if_neg i_] at q9;obtain⟨n',dW,w9⟩:=q9;obtain⟨a1,a2⟩:=WC I9;exact⟨n',dW,i+1,iE,H9,I9.unpinned,a1,a2,w9⟩
   | true =>
    rw[if_pos rfl] at q9;refine Q9 (he C s3 H3 fp lL _ s9 iE H9 _ (I9.wish _) q9) (λxv qD ⟨y,nX,lN,qE,af,nY,hl,n',dW,qF⟩=>?_) λ_ _ z=>z
    replace lN:=lN.unwish;refine Q9 (FZ (X:=cxC X scope N' C s3 H3 fp) _ qD iE nX (.ref p) [y] (.ref p) [xv] (λ_ H'=>H'=upd nX p (.lst (af++[y]))) lN rfl (.cons qE .nil) ⟨p,af,y,rfl,rfl,nY,hl,rfl⟩) (λ_ ua ⟨ub,ud,nZ,_,lO⟩=>?_) λ_ _ z=>z
    subst lO;obtain⟨a1,a2⟩:=WC nZ;exact⟨n',dW,i+1,iE,_,nZ.unpinned,a1,a2,qF⟩
 subst hC;subst lH;subst hP;refine codeAny_compStart_list ?_ (T.self X.A 0 _ _ _ (T.keep _ _ _ gP λb _ o e=>old b o e) ?_)
 ·exact aM _ rfl
 ·exact aM _ rfl
end
section
variable{bA iter:L_}{N':List Str}{g:TG}{tt:TT}{wi:TI}
noncomputable def tComp(m:Nat)(wi:TI)(g:TG)(tt:TT)(te:TE):TE:=λU H Q=>wi U H λJ H1=>∀p,H1 p=none->CompW m J g tt te U H1 p Q
theorem Ms(S:CompScope X.env.scope scope X.N N' m)(hc:X.calm=true)(hi:PI X tg iter wi)(hg:∀C s H ex,PG (cxC X scope N' C s H ex) tg g)(ht:∀C s H ex,PTs (cxC X scope N' C s H ex) bg tt)(he:∀C s H ex,PE (cxC X scope N' C s H ex) bA te)(hs:∀x,Ry iter X.env x=pure x:=by intros;rfl):PE X (.ListComp bA [⟨tg,iter,bg,0⟩] scope pos) (tComp m wi g tt te):=by
 intro aa s U H Q I h;rw[eval_ListComp];refine UP (use:=none) rfl hs (FW λn hn=>I.ok.has n (S.free _ hn rfl)) S.kind S.locals (thn (hi aa s U H _ I h) λxv s1 h1=>thn h1 λjC s2 h2=>?_);obtain⟨it,fp,tn,J,H2,e,I2,T,fb,f2,hw⟩:=h2;subst e;refine thn (Fc (Er:=λ_ _ _=>False) (pos:=pos) (iter:=iter) S hc hg ht (λC s H ex _=>PE.nox (X:=(cxC X scope N' C s H ex).wish _) (he C s H ex)) I2 T fb f2 hw) λaf s3 h3=>thn h3 λdf s4 h4=>R7 h4 λr s5 h5=>?_
 cases r with
 | error x=>exact h5.elim
 | ok fl =>
  obtain⟨p,H5,mm,rfl,hn,I5,cl,q⟩:=h5;exact⟨mm,hn,λh' gU=>⟨.ref p,H5,Inv.clear I5 cl gU,rfl,q⟩⟩
theorem Ew{i:Nat}(S:CompScope X.env.scope scope X.N N' m)(hc:X.calm=true)(hN:X.N.Nodup)(bC:X.N[i]?=some y)(hy:X.env.scope.names.lookup y=some .local)(hi:PI X tg iter wi)(hg:∀C s H ex,PG (cxC X scope N' C s H ex) tg g)(ht:∀C s H ex,PTs (cxC X scope N' C s H ex) bg tt)(he:∀C s H ex,PE (cxC X scope N' C s H ex) bA te)(iF:RM (.ListComp bA [⟨tg,iter,bg,0⟩] scope pos) (some (.Name y py)) dg.line X.env=pure true)(hs:∀x,Ry iter X.env x=pure x:=by intros;rfl):PS X (.Assign [.Name y py] (.ListComp bA [⟨tg,iter,bg,0⟩] scope pos) dg) (tAsg (tComp m wi g tt te) (gName i)):=by
 intro aa s U H D I h;rw[exec_Assign_Name_used _ _ _ _ iF];refine a_ (VZ (a_ ?_));show m_ _ X.A (do let _ ←comprehension (.ListComp bA [⟨tg,iter,bg,0⟩] scope pos) scope X.env _ (newList []) false (eval iter X.env) (some (Us (.Name y py) X.env))) _ _ s
 refine a_ (thn (UP (use:=some (Us (.Name y py) X.env)) (Q:=λ_ s'=>SP X aa D .next s') rfl hs (FW λn hn=>I.ok.has n (S.free _ hn rfl)) S.kind S.locals
  (thn (hi aa s U H _ I h) λxv s1 h1=>thn h1 λjC s2 h2=>?_)) λ_ s' hq=>d_ (d_ hq))
 obtain⟨it,fp,tn,J,H2,e,I2,T,fb,f2,hw⟩:=h2;subst e;refine thn (Fc (Er:=λ_ _ _=>False) (pos:=pos) (iter:=iter) S hc hg ht (λC s H ex _=>PE.nox (X:=(cxC X scope N' C s H ex).wish _) (he C s H ex)) I2 T fb f2 hw) λaf s3 h3=>thn h3 λdf s4 h4=>R7 h4 λr s5 h5=>?_
 cases r with
 | error x=>exact h5.elim
 | ok fl =>
  obtain⟨p,H5,mm,rfl,hn,I5,cl,q⟩:=h5;show m_ _ X.A (Us (.Name y py) X.env (.ref p)) _ _ s5;refine We (DC (v:=.ref p) I5 hN bC (.inl hy) rfl (λs6 I6 ⟨a,qG,ha⟩=>?_) (.inr hy))
  have gO:df.locals≠a:=by
   rcases ha with rfl | ha
   ·exact cl.2.1
   ·exact λz=>cl.2.2.2.1 y a ha z.symm
  refine⟨mm,hn.sameBut qG gO,λh' gU=>?_⟩;have qH:Clear X aa H5 df.locals:=cl;exact⟨_,H5,Inv.clear I6 qH gU,q⟩
end
noncomputable def inC{α:Type}(m:Nat)(g:M α):M α:=λΓ=>match g (QY m none++Γ) with
 | some (a,ae)=>some (a,ae.drop m)
 | none=>none
noncomputable def compM(az:D->M Unit)(ts:M Bool)(el:M D):List D->M (List D)
 | []=>ret []
 | d::ds=>bnd (az d) λ_=>bnd ts λb=>if b then bnd el λx=>bnd (compM az ts el ds) λr=>ret (x::r) else compM az ts el ds
noncomputable def compO(m:Nat)(it:M (List D))(az:D->M Unit)(ts:M Bool)(el:M D):M (List D):=bnd it λds=>if ds.length<=lim then inC m (compM az ts el ds) else λ_=>none
noncomputable def bUp(m:Nat)(B:BB):BB:=λi=>if i < m then none else B (i - m)
theorem J8{α:Type}{g:M α}{a:α}(h:inC m g Γ=some (a,ae)):∃Γ1,g (QY m none++Γ)=some (a,Γ1)/\ae=Γ1.drop m:=by
 unfold inC at h;cases e:g (QY m none++Γ) with
 | none=>rw[e] at h;cases h
 | some q=>obtain⟨b,Γ1⟩:=q;rw[e] at h;cases h;exact⟨Γ1,rfl,rfl⟩
section
variable{K:PySem.W.Frag}{B:BB}{H:Hp}{ai:L2.St}
theorem xE{α:Type}{l:List (Option α)}{m i:Nat}{a:α}(h:(QY m (none:Option α)++l)[i]?=some (some a)):m<=i/\l[i - m]?=some (some a):=by
 by_cases hi:m<=i
 ·rw[RO (by rw[N_];exact hi),N_] at h;exact⟨hi,h⟩
 ·rw[RH (by rw[N_];omega),Sb] at h;split at h<;>cases h
theorem Eb{α:Type}{l:List (Option α)}{m i:Nat}(hi:m<=i):(QY m (none:Option α)++l)[i]?=l[i - m]?:=by
 rw[RO (by rw[N_];exact hi),N_]
theorem Rep.up(r:Rep K B G I H U Γ)(m:Nat):Rep K (bUp m B) G I H (QY m none++U) (QY m none++Γ) where
 iH:=r.iH
 gH:=r.gH
 len:=by rw[QZ,QZ,N_,N_,r.len]
 slot:=λi q e=>by
  obtain⟨hi,e1⟩:=xE e;obtain⟨v,e2,e3⟩:=r.slot _ q e1;exact⟨v,by rw[Eb hi];exact e2,e3⟩
 dist:=λi j q q' v e e' mm lP s1 s2=>by
  obtain⟨hi,e1⟩:=xE e;obtain⟨hj,e2⟩:=xE e';have:=r.dist _ _ q q' v e1 e2 mm lP (xE s1).2 (xE s2).2;omega
 bor:=λi ds e=>by
  obtain⟨hi,e1⟩:=xE e;rw[Eb hi,r.bor _ ds e1];unfold bUp;rw[if_neg (by omega)]
theorem Rep.down(r:Rep K (bUp m B) G I H ai ae)(hs:ai.drop m=U):Rep K B G I H U (ae.drop m):=by
 subst hs
 exact {
  iH:=r.iH,gH:=r.gH
  len:=by rw[TU,TU,r.len]
  slot:=λi q e=>by
   rw[TK] at e;obtain⟨v,e2,e3⟩:=r.slot _ q e;exact⟨v,by rw[TK];exact e2,e3⟩
  dist:=λi j q q' v e e' mm lP s1 s2=>by
   rw[TK] at e e' s1 s2;have:=r.dist _ _ q q' v e e' mm lP s1 s2;omega
  bor:=λi ds e=>by
   rw[TK] at e ⊢;rw[r.bor _ ds e];unfold bUp;rw[if_neg (by omega)]
   congr 1
   omega }
theorem Rep.guard(r:Rep K B G I H U Γ){p:g_}(h:H p=none)(o:HO):Rep K B (upd G p o) I (upd H p o) U Γ where
 iH:=r.iH.trans (vq h o)
 gH:=Di r.gH o
 len:=r.len
 slot:=λi q e=>by
  obtain⟨v,e1,e2⟩:=r.slot i q e;refine⟨v,e1,?_⟩
  have mt:∀ds,Mt K G I H ds v->Mt K (upd G p o) I (upd H p o) ds v:=λds hh=>by
   obtain⟨p2,xs,h1,h2,h3,h4,h5⟩:=hh;have ne:p2≠p:=vM h2 h;exact⟨p2,xs,h1,by rw[uS ne];exact h2,h3,by rw[uS ne];exact h4,h5⟩
  cases q with
  | val d=>exact e2
  | dic ds =>
   obtain⟨p2,xs,h1,h2,h3,h4,h5⟩:=e2;have ne:p2≠p:=vM h2 h;exact⟨p2,xs,h1,by rw[uS ne];exact h2,h3,by rw[uS ne];exact h4,h5⟩
  | own ds=>exact mt ds e2
  | bor ds=>exact mt ds e2
  | fro ds =>
   obtain⟨p2,xs,f1,f2,f3,f4⟩:=e2;have ne:p2≠p:=vM (r.iH _ _ f2) h;exact⟨p2,xs,f1,f2,by rw[uS ne];exact f3,f4⟩
 dist:=r.dist
 bor:=r.bor
theorem Rep.reguard{p:g_}{o':HO}(r:Rep K B (upd G p o) I H U Γ)(hi:I p=none):Rep K B (upd G p o') I (upd H p o') U Γ where
 iH:=λb u q=>by
  have ne:b≠p:=λz=>by subst z;rw[hi] at q;cases q
  rw[uS ne];exact r.iH b u q
 gH:=λb u q=>by
  by_cases e:b=p
  ·subst e;rw[u3] at q ⊢;exact q
  ·rw[uS e] at q ⊢;exact r.gH b u (by rw[uS e];exact q)
 len:=r.len
 slot:=λi q e=>by
  obtain⟨v,e1,e2⟩:=r.slot i q e;refine⟨v,e1,?_⟩
  have mt:∀ds,Mt K (upd G p o) I H ds v->Mt K (upd G p o') I (upd H p o') ds v:=λds hh=>by
   obtain⟨p2,xs,h1,h2,h3,h4,h5⟩:=hh;have ne:p2≠p:=λz=>by subst z;rw[u3] at h4;cases h4
   rw[uS ne] at h4;exact⟨p2,xs,h1,by rw[uS ne];exact h2,h3,by rw[uS ne];exact h4,h5⟩
  cases q with
  | val d=>exact e2
  | dic ds =>
   obtain⟨p2,xs,h1,h2,h3,h4,h5⟩:=e2;have ne:p2≠p:=λz=>by subst z;rw[u3] at h4;cases h4
   rw[uS ne] at h4;exact⟨p2,xs,h1,by rw[uS ne];exact h2,h3,by rw[uS ne];exact h4,h5⟩
  | own ds=>exact mt ds e2
  | bor ds=>exact mt ds e2
  | fro ds =>
   obtain⟨p2,xs,f1,f2,f3,f4⟩:=e2;have ne:p2≠p:=λz=>by rw[z,hi] at f2;cases f2
   rw[uS ne] at f3;exact⟨p2,xs,f1,f2,by rw[uS ne];exact f3,f4⟩
 dist:=r.dist
 bor:=r.bor
theorem Rep.unguard{p:g_}(r:Rep K B (upd G p o) I H U Γ)(hg:G p=none):Rep K B G I H U Γ/\Apart U Γ p:=by
 have ap:Apart U Γ p:=λj q e mm s=>by
  obtain⟨v,e1,e2⟩:=r.slot j q e;obtain⟨p2,xs,h1,h2,h3,h4⟩:=e2.mt mm;rw[e1,h1] at s;cases s;rw[u3] at h4;cases h4
 refine⟨{ iH:=r.iH,gH:=(vq hg o).trans r.gH,len:=r.len,slot:=λi q e=>?_,dist:=r.dist,bor:=r.bor },ap⟩;obtain⟨v,e1,e2⟩:=r.slot i q e;refine⟨v,e1,?_⟩
 have mt:∀ds,Mt K (upd G p o) I H ds v->Mt K G I H ds v:=λds hh=>by
  obtain⟨p2,xs,h1,h2,h3,h4,h5⟩:=hh;have ne:p2≠p:=λz=>by subst z;rw[u3] at h4;cases h4
  rw[uS ne] at h4;exact⟨p2,xs,h1,h2,h3,h4,h5⟩
 cases q with
 | val d=>exact e2
 | dic ds =>
  obtain⟨p2,xs,h1,h2,h3,h4,h5⟩:=e2;have ne:p2≠p:=λz=>by subst z;rw[u3] at h4;cases h4
  rw[uS ne] at h4;exact⟨p2,xs,h1,h2,h3,h4,h5⟩
 | own ds=>exact mt ds e2
 | bor ds=>exact mt ds e2
 | fro ds =>
  obtain⟨p2,xs,f1,f2,f3,f4⟩:=e2;have ne:p2≠p:=λz=>by rw[z,u3] at f3;cases f3
  rw[uS ne] at f3;exact⟨p2,xs,f1,f2,f3,f4⟩
theorem Grow.unguard{p:g_}(g:Grow (upd G p o) I I'):Grow G I I':=⟨g.up,λb u q=>by
 rcases g.new b u q with z | z
 ·exact .inl z
 ·by_cases e:b=p
  ·subst e;rw[u3] at z;cases z
  ·rw[uS e] at z;exact .inr z⟩
theorem Grow.keepsOut{p:g_}(g:Grow (upd G p o) I I')(hi:I p=none):I' p=none:=by
 cases e:I' p with
 | none=>rfl
 | some u =>
  rcases g.new p u e with z | z
  ·rw[hi] at z;cases z
  ·rw[u3] at z;cases z
end
section
variable{B:BB}{bA iter:L_}{N':List Str}{ts:M Bool}
def TDs(X:Cx)(B:BB)(bg:List L_)(g:M Bool):Prop:=PTs X bg (tTD X.K B g)
theorem vZ:TDs X B [] (ret true):=λaa s U H Q I h=>Nx aa s U H Q I (by
 obtain⟨G,I,Γ,b,ae,r,e1,k⟩:=h;cases e1
 exact k _ _ r (Grow.refl _ _))
theorem xu{c:L_}{g:M Bool}(h:TD X B c g):TDs X B [c] g:=J4 h
theorem BK{K:PySem.W.Frag}:∀U H Q,tO K B (compO m it az ts el) U H Q->tComp m (tI K B it) (tGD K (bUp m B) m az) (tTD K (bUp m B) ts) (tD K (bUp m B) el) U H Q:=λU H Q q=>by
 obtain⟨G,I,Γ,rs,ae,r,e1,k⟩:=q;obtain⟨ds,Γ1,e2,e3⟩:=uP e1;by_cases gC:ds.length<=lim
 case neg=>rw[if_neg gC] at e3;cases e3
 rw[if_pos gC] at e3;obtain⟨dk,e4,rfl⟩:=J8 e3;refine⟨G,I,Γ,ds,Γ1,r,e2,λJ H1 I1 r1 g1 y p hp=>?_⟩;have gp:=r1.gFree hp;have ip:=r1.iFree hp
 refine⟨λi n ai H'=>∃af ad I2 Γ2 aA,Rep K (bUp m B) (upd G p (.lst af)) I2 H' ai Γ2/\Grow G I1 I2/\I2 p=none/\IsA K I2 ad af/\ai.drop m=U/\compM az ts el (ds.drop i) Γ2=some (aA,dk)/\ad++aA=rs/\ad.length<=i/\i<=ds.length/\n=ds.length - i,
  ⟨ds.length,[],[],I1,_,rs,(r1.up m).guard hp _,Grow.refl _ _,ip,IsA.nil,by rw[List.drop_append_of_le_length (by simp),SF (by simp),Wb],by simpa using e4,rfl,Rw _,Rw _,rfl⟩,?_⟩
 rintro i n aQ H2 ⟨af,ad,I2,Γ2,aA,r2,g2,lQ,ha,hs,e5,rfl,ue,hi,rfl⟩;obtain⟨yg,ys⟩:=y i H2 (g2.up.trans r2.iH);by_cases bz:i < ds.length
 ·have hd:ds.drop i=ds[i]::ds.drop (i+1):=Q0 bz;obtain⟨go,yld⟩:=yg ds[i] (h_ bz);rw[hd,compM] at e5;obtain⟨u,aI,e6,e7⟩:=uP e5;obtain⟨b,aJ,e8,e9⟩:=uP e7;refine .inr ⟨go,λx H3 hy=>?_⟩
  have main:∀I3,Rep K (bUp m B) (upd G p (.lst af)) I3 H3 aQ Γ2->Grow (upd G p (.lst af)) I2 I3->Is K I3 ds[i] x->tGD K (bUp m B) m az x aQ H3 λaQ H3=>tTD K (bUp m B) ts aQ H3 λb H4 =>
    if b=true then tD K (bUp m B) el aQ H4 λy H5=>∃af,H5 p=some (.lst af)/\af.length < D_/\∃n',n' < ds.length - i/\∃acc_1 ad_1 I2 Γ2 rest_1,Rep K (bUp m B) (upd G p (.lst acc_1)) I2 (upd H5 p (.lst (af++[y]))) aQ Γ2/\Grow G I1 I2/\I2 p=none/\IsA K I2 ad_1 acc_1/\aQ.drop m=U/\compM az ts el (ds.drop (i+1)) Γ2=some (rest_1,dk)/\ad_1++rest_1=ad++aA/\ad_1.length<=i+1/\i+1<=ds.length/\n'=ds.length - (i+1)
    else ∃n',n' < ds.length - i/\∃af ad_1 I2 Γ2 rest_1,Rep K (bUp m B) (upd G p (.lst af)) I2 H4 aQ Γ2/\Grow G I1 I2/\I2 p=none/\IsA K I2 ad_1 af/\aQ.drop m=U/\compM az ts el (ds.drop (i+1)) Γ2=some (rest_1,dk)/\ad_1++rest_1=ad++aA/\ad_1.length<=i+1/\i+1<=ds.length/\n'=ds.length - (i+1):=by
   intro I3 r3 g3 hx;refine⟨_,I3,Γ2,ds[i],aI,r3,hx,e6,λdZ H4 I4 r4 g4 qI=>⟨_,I4,aI,b,aJ,r4,e8,λH5 I5 r5 g5=>?_⟩⟩;have jK:=g3.trans (g4.trans g5);have gU:dZ.drop m=U:=qI.trans hs;cases b with
   | false =>
    refine iteF ⟨ds.length - (i+1),by omega,af,ad,I5,aJ,aA,r5,g2.trans jK.unguard,jK.keepsOut lQ,ha.mono jK.up,gU,by simpa using e9,rfl,by omega,bz,rfl⟩
   | true =>
    simp only[if_true] at e9;obtain⟨xd,fj,f1,f2⟩:=uP e9;obtain⟨rr,iG,f3,f4⟩:=uP f2;cases f4;refine iteT ⟨_,I5,aJ,xd,fj,r5,f1,λyv H6 I6 r6 g6 qJ=>⟨af,r6.gH _ _ u3,?_,ds.length - (i+1),by omega,af++[yv],ad++[xd],I6,fj,rr,?_⟩⟩
    ·rw[←ha.length];have h1:lim < D_:=by rw[Rz];decide
     omega
    ·have lS:=jK.trans g6;have n4:=lS.keepsOut lQ;exact⟨r6.reguard n4,g2.trans lS.unguard,n4,IsA.append (ha.mono lS.up) (IsA.cons qJ IsA.nil),gU,f3,by rw[Vf];rfl,by rw[QZ,Ts];omega,bz,rfl⟩
  rcases yld x H3 hy with⟨rfl,hx⟩ | ⟨p2,es,xs,dJ,rfl,dL,rfl,hx⟩
  ·exact main I2 r2 (Grow.refl _ _) (hx.mono g2.up)
  ·refine main _ (r2.alloc dL _) (r2.growAlloc dL _) ?_;rw[dJ];exact Is.tup (SqT.of u3) ((hx.mono g2.up).mono (vq (r2.iFree dL) _))
 ·have cN:i=ds.length:=by omega
  subst cN;rw[UZ] at e5;cases e5;rw[Rx] at k;refine .inl ⟨ys (x_ _),?_⟩;have rd:=Rep.down r2 hs;obtain⟨ru,ap⟩:=rd.unguard gp;exact k p af H2 I2 ru (g1.trans g2) (r2.gH _ _ u3) lQ gp ap ha
theorem vN(S:CompScope X.env.scope scope X.N N' m)(hc:X.calm=true)(hi:ITD X B tg iter it)(hg:∀C s H ex,GD (cxC X scope N' C s H ex) (bUp m B) m tg az)(ht:∀C s H ex,TDs (cxC X scope N' C s H ex) (bUp m B) bg ts)(he:∀C s H ex,ED (cxC X scope N' C s H ex) (bUp m B) bA el)(hs:∀x,Ry iter X.env x=pure x:=by intros;rfl):EO X B (.ListComp bA [⟨tg,iter,bg,0⟩] scope pos) (compO m it az ts el):=PE.imp (Ms (g:=tGD X.K (bUp m B) m az) (tt:=tTD X.K (bUp m B) ts) (te:=tD X.K (bUp m B) el) S hc hi hg ht he hs) BK
theorem As{i:Nat}(S:CompScope X.env.scope scope X.N N' m)(hc:X.calm=true)(hN:X.N.Nodup)(hi:ITD X B tg iter it)(hg:∀C s H ex,GD (cxC X scope N' C s H ex) (bUp m B) m tg az)(ht:∀C s H ex,TDs (cxC X scope N' C s H ex) (bUp m B) bg ts)(he:∀C s H ex,ED (cxC X scope N' C s H ex) (bUp m B) bA el)(bC:X.N[i]?=some y:=by rfl)(hy:X.env.scope.names.lookup y=some .local:=by rfl)(iF:RM (.ListComp bA [⟨tg,iter,bg,0⟩] scope pos) (some (.Name y py)) dg.line X.env=pure true:=by rfl)(hs:∀x,Ry iter X.env x=pure x:=by intros;rfl):SD X B (.Assign [.Name y py] (.ListComp bA [⟨tg,iter,bg,0⟩] scope pos) dg) (setV i (frz (compO m it az ts el))):=PS.imp (Ew (g:=tGD X.K (bUp m B) m az) (tt:=tTD X.K (bUp m B) ts) (te:=tD X.K (bUp m B) el) S hc hN bC hy hi hg ht he iF hs) λE U H q=>by
 obtain⟨G,I,Γ,f,ae,r,e1,k⟩:=q;obtain⟨d1,Γ1,e2,e3⟩:=uP e1;obtain⟨d2,Γ2,e4,e5⟩:=uP e3;cases e5;obtain⟨hl,rfl⟩:=xa e4;obtain⟨ds,aI,e6,e7⟩:=uP e2;cases e7;refine BK U H _ ⟨G,I,Γ,ds,_,r,e6,λp xs H1 I1 r1 g1 h1 h2 h3 h4 h5=>?_⟩;refine k _ H1 _ ((r1.freeze h1 h2 h4).store (by rw[r1.len];exact hl) (Is.lst (RdK.of u3) (h5.mono (vq h2 _))) (λm=>nomatch m) (λ_ z=>nomatch z)) (g1.trans (growFreeze h2 h3))
end
mutual
noncomputable def deq:D->D->Bool
 | .non,.non=>true
 | .bl a,.bl b=>a == b
 | .bl a,.int j=>(if a then(1:Int) else 0) == j
 | .int i,.bl b=>i == (if b then(1:Int) else 0)
 | .int i,.int j=>i == j
 | .str x,.str y=>x == y
 | .tup xs,.tup ys=>deqA xs ys
 | .lst xs,.lst ys=>deqA xs ys
 | .exc _ _,.exc _ _=>true
 | _,_=>false
noncomputable def deqA:List D->List D->Bool
 | [],[]=>true
 | x::xs,y::ys=>deq x y&&deqA xs ys
 | _,_=>false
end
mutual
noncomputable def dep:D->Nat
 | .tup xs=>depA xs+1
 | .lst xs=>depA xs+1
 | .exc _ _=>1000
 | _=>0
noncomputable def depA:List D->Nat
 | []=>0
 | x::xs=>max (dep x) (depA xs)
end
mutual
theorem CG:∀a:D,deq a a=true
 | .non=>by rw[deq]
 | .bl b=>by rw[deq];exact beq_self_eq_true b
 | .int b=>by rw[deq];exact beq_self_eq_true b
 | .str b=>by rw[deq];exact beq_self_eq_true b
 | .tup xs=>by rw[deq];exact yz xs
 | .lst xs=>by rw[deq];exact yz xs
 | .exc _ _=>by rw[deq]
theorem yz:∀a:List D,deqA a a=true
 | []=>by rw[deqA]
 | x::xs=>by rw[deqA,CG x,yz xs];rfl
end
theorem vy:∀{xs:List D}{x:D},x∈xs->dep x<=depA xs
 | y::ys,x,h=>by
  rw[depA]
  rcases A_.mp h with rfl | h
  ·omega
  ·have:=vy h;omega
theorem Aj:∀(xs ys:List D),((RR (min xs.length ys.length)).all (λj=>deq (xs.getD j .non) (ys.getD j .non))&&(xs.length == ys.length))=deqA xs ys
 | [],[]=>by rw[deqA];rfl
 | [],y::ys=>by rw[deqA]<;>simp
 | x::xs,[]=>by rw[deqA]<;>simp
 | x::xs,y::ys=>by
  have ih:=Aj xs ys;have e:min (x::xs).length (y::ys).length=min xs.length ys.length+1:=by simp only[Rp];omega
  rw[deqA,←ih,e,So,Sd,List.all_map]
  have e2:((x::xs).length == (y::ys).length)=(xs.length == ys.length):=by
   simp only[Rp];cases h:xs.length == ys.length
   ·simp at h ⊢;omega
   ·simp at h ⊢;omega
  rw[e2,Bool.and_assoc];rfl
theorem K0{xs:List D}(h:xs.length≠ys.length):deqA xs ys=false:=by
 rw[←Aj];have:(xs.length == ys.length)=false:=by simpa using h
 rw[this,Uu]
section
variable{H:Hp}{s:c_}
theorem IsA.getU{K:PySem.W.Frag}(h:IsA K I ds xs)(r:Vals xs us){j:Nat}(hj:j < us.toArray.size):∃v,RelV v us.toArray[j]/\Is K I (ds.getD j .non) v:=by
 have h1:=h.length;have h2:=r.length;have bE:j < us.length:=by simpa using hj
 have hd:ds[j]?=some ds[j]:=h_ (by omega);obtain⟨v,e1,e2⟩:=h.get hd;obtain⟨u,e3,e4⟩:=r.get e1
 have e5:us.toArray[j]=u:=by
  rw[h_ bE] at e3;simpa using e3
 refine⟨v,by rw[e5];exact e4,?_⟩;rw[j_,hd];exact e2
theorem rdL{a:g_}{K:PySem.W.Frag}(h:RdK K H a xs):SqL K H a xs:=h.sq
mutual
theorem yq(I:Inv X aa U H s):∀{a b:D}{v:V},dep a < 1000->dep b < 1000->Is X.K H a v->Is X.K H b v->a=b
 | .non,b,v,da,db,h,h'=>by
  have e:=v5 h;subst e;cases b<;>first | rfl | (simp[dep] at db;done) | (rw[Is] at h';obtain⟨_,_,e,_⟩:=h';cases e) | (rw[Is] at h';cases h')
 | .bl x,b,v,da,db,h,h'=>by
  have e:=vx h;subst e;cases b<;>first | (simp[dep] at db;done) | (rw[Is] at h';obtain⟨_,_,e,_⟩:=h';cases e) | (rw[Is] at h';cases h';rfl) | (rw[Is] at h';cases h')
 | .int x,b,v,da,db,h,h'=>by
  have e:=uZ h;subst e;cases b<;>first | (simp[dep] at db;done) | (rw[Is] at h';obtain⟨_,_,e,_⟩:=h';cases e) | (rw[Is] at h';cases h';rfl) | (rw[Is] at h';cases h')
 | .str x,b,v,da,db,h,h'=>by
  have e:=vQ h;subst e;cases b<;>first | (simp[dep] at db;done) | (rw[Is] at h';obtain⟨_,_,e,_⟩:=h';cases e) | (rw[Is] at h';cases h';rfl) | (rw[Is] at h';cases h')
 | .tup ds,b,v,da,db,h,h'=>by
  obtain⟨p,xs,rfl,h1,h2⟩:=u7 h;cases b with
  | tup es =>
   obtain⟨p',cb,e,h3,h4⟩:=u7 h';cases e;have:=I.tuple_inj h1 h3;subst this;rw[Ay I (by rw[dep] at da;omega) (by rw[dep] at db;omega) h2 h4]
  | lst es =>
   obtain⟨p',cb,e,h3,h4⟩:=u5 h';cases e;obtain⟨i1,_,t1,_⟩:=I.tuple h1;obtain⟨i2,_,t2,_⟩:=I.list (rdL h3);exact absurd rfl (ne_of_list_tuple t2.isList t1)
  | exc _ _=>simp[dep] at db
  | _=>rw[Is] at h';cases h'
 | .lst ds,b,v,da,db,h,h'=>by
  obtain⟨p,xs,rfl,h1,h2⟩:=u5 h;cases b with
  | lst es =>
   obtain⟨p',cb,e,h3,h4⟩:=u5 h';cases e;have:=I.list_inj (rdL h1) (rdL h3);subst this;rw[Ay I (by rw[dep] at da;omega) (by rw[dep] at db;omega) h2 h4]
  | tup es =>
   obtain⟨p',cb,e,h3,h4⟩:=u7 h';cases e;obtain⟨i1,_,t1,_⟩:=I.tuple h3;obtain⟨i2,_,t2,_⟩:=I.list (rdL h1);exact absurd rfl (ne_of_list_tuple t2.isList t1)
  | exc _ _=>simp[dep] at db
  | _=>rw[Is] at h';cases h'
 | .exc _ _,b,v,da,_,_,_=>by simp[dep] at da
theorem Ay(I:Inv X aa U H s):∀{a b:List D}{v:List V},depA a < 1000->depA b < 1000->IsA X.K H a v->IsA X.K H b v->a=b
 | [],b,v,_,_,h,h'=>by
  have e:=h.nil_inv;subst e;cases b with
  | nil=>rfl
  | cons d r=>obtain⟨_,_,e,_⟩:=h'.cons_inv;cases e
 | d::ds,b,v,da,db,h,h'=>by
  obtain⟨x,r,rfl,h1,h2⟩:=h.cons_inv;cases b with
  | nil=>have:=h'.nil_inv;cases this
  | cons e es =>
   obtain⟨x',r',e',h3,h4⟩:=h'.cons_inv;cases e';rw[depA] at da db;rw[yq I (by omega) (by omega) h1 h3,Ay I (by omega) (by omega) h2 h4]
end
open PySem.SeqAt in
theorem DE(I:Inv X aa U H s)(hu:A.units < Sa){a b:D}{x y:V}{u v:b_}(da:dep a < 1000)(db:dep b < 1000)(ha:Is X.K H a x)(hb:Is X.K H b y)(ru:RelV x u)(rv:RelV y v)(ht:∀xs ys,a=.tup xs->b=.tup ys->RcAt A s u v (deq a b)/\WJ A s u v (deq a b)/\Wy A s u v (!deq a b))(hl:∀xs ys,a=.lst xs->b=.lst ys->RcAt A s u v (deq a b)/\WJ A s u v (deq a b)/\Wy A s u v (!deq a b)):RcAt A s u v (deq a b)/\WJ A s u v (deq a b)/\Wy A s u v (!deq a b):=by
 cases a with
 | exc _ _=>simp[dep] at da
 | non =>
  have e:=v5 ha;subst e;cases ru;cases b with
  | exc _ _=>simp[dep] at db
  | non=>have e:=v5 hb;subst e;cases rv;rw[deq];exact⟨.none_none,.same _,.none_none⟩
  | bl j=>have e:=vx hb;subst e;cases rv;rw[deq]<;>first | exact⟨.none_bool _,.none_bool _,.none_bool _⟩ | (intros;contradiction)
  | int j=>have e:=uZ hb;subst e;obtain⟨t,rfl⟩:=rv;rw[deq]<;>first | exact⟨.none_int _ _,.none_int _ _,.none_int _ _⟩ | (intros;contradiction)
  | str j=>have e:=vQ hb;subst e;obtain⟨t,rfl⟩:=rv;rw[deq]<;>first | exact⟨.none_str _ _,.none_str _ _,.none_str _ _⟩ | (intros;contradiction)
  | tup j =>
   obtain⟨p,xs,rfl,h1,h2⟩:=u7 hb;cases rv;obtain⟨ac,_,t,_⟩:=I.tuple h1;rw[deq]<;>first | exact⟨.none_tuple t hu,.none_tuple t hu,.none_tuple t hu⟩ | (intros;contradiction)
  | lst j =>
   obtain⟨p,xs,rfl,h1,h2⟩:=u5 hb;cases rv;obtain⟨ac,_,t,_⟩:=I.list (rdL h1);have t:=t.isList;rw[deq]<;>first | exact⟨.none_list t hu,.none_list t hu,.none_list t hu⟩ | (intros;contradiction)
 | bl i =>
  have e:=vx ha;subst e;cases ru;cases b with
  | exc _ _=>simp[dep] at db
  | non=>have e:=v5 hb;subst e;cases rv;rw[deq]<;>first | exact⟨.bool_none _,.bool_none _,.bool_none _⟩ | (intros;contradiction)
  | bl j=>have e:=vx hb;subst e;cases rv;rw[deq];exact⟨.bool_bool _ _,.bool_bool _ _,.bool_bool _ _⟩
  | int j=>have e:=uZ hb;subst e;obtain⟨t,rfl⟩:=rv;rw[deq];exact⟨.bool_int _ _ _,.bool_int _ _ _,.bool_int _ _ _⟩
  | str j=>have e:=vQ hb;subst e;obtain⟨t,rfl⟩:=rv;rw[deq]<;>first | exact⟨.bool_str _ _ _,.bool_str _ _ _,.bool_str _ _ _⟩ | (intros;contradiction)
  | tup j =>
   obtain⟨p,xs,rfl,h1,h2⟩:=u7 hb;cases rv;obtain⟨ac,_,t,_⟩:=I.tuple h1;rw[deq]<;>first | exact⟨.bool_tuple _ t hu,.bool_tuple _ t hu,.bool_tuple _ t hu⟩ | (intros;contradiction)
  | lst j =>
   obtain⟨p,xs,rfl,h1,h2⟩:=u5 hb;cases rv;obtain⟨ac,_,t,_⟩:=I.list (rdL h1);have t:=t.isList;rw[deq]<;>first | exact⟨.bool_list _ t hu,.bool_list _ t hu,.bool_list _ t hu⟩ | (intros;contradiction)
 | int i =>
  have e:=uZ ha;subst e;obtain⟨t0,rfl⟩:=ru;cases b with
  | exc _ _=>simp[dep] at db
  | non=>have e:=v5 hb;subst e;cases rv;rw[deq]<;>first | exact⟨.int_none _ _,.int_none _ _,.int_none _ _⟩ | (intros;contradiction)
  | bl j=>have e:=vx hb;subst e;cases rv;rw[deq];exact⟨.int_bool _ _ _,.int_bool _ _ _,.int_bool _ _ _⟩
  | int j=>have e:=uZ hb;subst e;obtain⟨t,rfl⟩:=rv;rw[deq];exact⟨.int_int _ _ _ _,.int_int _ _ _ _,.int_int _ _ _ _⟩
  | str j=>have e:=vQ hb;subst e;obtain⟨t,rfl⟩:=rv;rw[deq]<;>first | exact⟨.int_str _ _ _ _,.int_str _ _ _ _,.int_str _ _ _ _⟩ | (intros;contradiction)
  | tup j =>
   obtain⟨p,xs,rfl,h1,h2⟩:=u7 hb;cases rv;obtain⟨ac,_,t,_⟩:=I.tuple h1;rw[deq]<;>first | exact⟨.int_tuple _ _ t hu,.int_tuple _ _ t hu,.int_tuple _ _ t hu⟩ | (intros;contradiction)
  | lst j =>
   obtain⟨p,xs,rfl,h1,h2⟩:=u5 hb;cases rv;obtain⟨ac,_,t,_⟩:=I.list (rdL h1);have t:=t.isList;rw[deq]<;>first | exact⟨.int_list _ _ t hu,.int_list _ _ t hu,.int_list _ _ t hu⟩ | (intros;contradiction)
 | str i =>
  have e:=vQ ha;subst e;obtain⟨t0,rfl⟩:=ru;cases b with
  | exc _ _=>simp[dep] at db
  | non=>have e:=v5 hb;subst e;cases rv;rw[deq]<;>first | exact⟨.str_none _ _,.str_none _ _,.str_none _ _⟩ | (intros;contradiction)
  | bl j=>have e:=vx hb;subst e;cases rv;rw[deq]<;>first | exact⟨.str_bool _ _ _,.str_bool _ _ _,.str_bool _ _ _⟩ | (intros;contradiction)
  | int j=>have e:=uZ hb;subst e;obtain⟨t,rfl⟩:=rv;rw[deq]<;>first | exact⟨.str_int _ _ _ _,.str_int _ _ _ _,.str_int _ _ _ _⟩ | (intros;contradiction)
  | str j=>have e:=vQ hb;subst e;obtain⟨t,rfl⟩:=rv;rw[deq];exact⟨.str_str _ _ _ _,.str_str _ _ _ _,.str_str _ _ _ _⟩
  | tup j =>
   obtain⟨p,xs,rfl,h1,h2⟩:=u7 hb;cases rv;obtain⟨ac,_,t,_⟩:=I.tuple h1;rw[deq]<;>first | exact⟨.str_tuple _ _ t hu,.str_tuple _ _ t hu,.str_tuple _ _ t hu⟩ | (intros;contradiction)
  | lst j =>
   obtain⟨p,xs,rfl,h1,h2⟩:=u5 hb;cases rv;obtain⟨ac,_,t,_⟩:=I.list (rdL h1);have t:=t.isList;rw[deq]<;>first | exact⟨.str_list _ _ t hu,.str_list _ _ t hu,.str_list _ _ t hu⟩ | (intros;contradiction)
 | tup i =>
  obtain⟨q,ys,rfl,g1,g2⟩:=u7 ha;cases ru;obtain⟨bF,_,t',_⟩:=I.tuple g1;cases b with
  | exc _ _=>simp[dep] at db
  | non=>have e:=v5 hb;subst e;cases rv;rw[deq]<;>first | exact⟨.tuple_none t' hu,.tuple_none t' hu,.tuple_none t' hu⟩ | (intros;contradiction)
  | bl j=>have e:=vx hb;subst e;cases rv;rw[deq]<;>first | exact⟨.tuple_bool _ t' hu,.tuple_bool _ t' hu,.tuple_bool _ t' hu⟩ | (intros;contradiction)
  | int j=>have e:=uZ hb;subst e;obtain⟨t,rfl⟩:=rv;rw[deq]<;>first | exact⟨.tuple_int _ _ t' hu,.tuple_int _ _ t' hu,.tuple_int _ _ t' hu⟩ | (intros;contradiction)
  | str j=>have e:=vQ hb;subst e;obtain⟨t,rfl⟩:=rv;rw[deq]<;>first | exact⟨.tuple_str _ _ t' hu,.tuple_str _ _ t' hu,.tuple_str _ _ t' hu⟩ | (intros;contradiction)
  | tup j=>exact ht _ _ rfl rfl
  | lst j =>
   obtain⟨p,xs,rfl,h1,h2⟩:=u5 hb;cases rv;obtain⟨ac,_,t,_⟩:=I.list (rdL h1);have t:=t.isList;rw[deq]<;>first | exact⟨.tuple_list t' t hu,.tuple_list t' t hu,.tuple_list t' t hu⟩ | (intros;contradiction)
 | lst i =>
  obtain⟨q,ys,rfl,g1,g2⟩:=u5 ha;cases ru;obtain⟨bF,_,t',_⟩:=I.list (rdL g1);have t':=t'.isList;cases b with
  | exc _ _=>simp[dep] at db
  | non=>have e:=v5 hb;subst e;cases rv;rw[deq]<;>first | exact⟨.list_none t' hu,.list_none t' hu,.list_none t' hu⟩ | (intros;contradiction)
  | bl j=>have e:=vx hb;subst e;cases rv;rw[deq]<;>first | exact⟨.list_bool _ t' hu,.list_bool _ t' hu,.list_bool _ t' hu⟩ | (intros;contradiction)
  | int j=>have e:=uZ hb;subst e;obtain⟨t,rfl⟩:=rv;rw[deq]<;>first | exact⟨.list_int _ _ t' hu,.list_int _ _ t' hu,.list_int _ _ t' hu⟩ | (intros;contradiction)
  | str j=>have e:=vQ hb;subst e;obtain⟨t,rfl⟩:=rv;rw[deq]<;>first | exact⟨.list_str _ _ t' hu,.list_str _ _ t' hu,.list_str _ _ t' hu⟩ | (intros;contradiction)
  | lst j=>exact hl _ _ rfl rfl
  | tup j =>
   obtain⟨p,xs,rfl,h1,h2⟩:=u7 hb;cases rv;obtain⟨ac,_,t,_⟩:=I.tuple h1;rw[deq]<;>first | exact⟨.list_tuple t' t hu,.list_tuple t' t hu,.list_tuple t' t hu⟩ | (intros;contradiction)
open PySem.SeqAt in
theorem xy(I:Inv X aa U H s):∀(n:Nat) (A:Rh),A.units+n < Sa->n < 900->∀(a b:D) (x y:V) (u v:b_),dep a<=n/\dep b<=n->Is X.K H a x->Is X.K H b y->RelV x u->RelV y v->RcAt A s u v (deq a b)/\WJ A s u v (deq a b)/\Wy A s u v (!deq a b):=by
 intro n
 induction n with
 | zero =>
  intro A hu hn a b x y u v hd ha hb ru rv;refine DE I (by omega) (by omega) (by omega) ha hb ru rv (λxs ys e1 e2=>?_) (λxs ys e1 e2=>?_)<;>(subst e1;subst e2;rw[dep,dep] at hd;omega)
 | succ n ih =>
  intro A hu hn a b x y u v hd ha hb ru rv;have fO:A.in1.units+n < Sa:=by show A.units+1+n < Sa;omega
  refine DE I (by omega) (by omega) (by omega) ha hb ru rv (λds es e1 e2=>?_) (λds es e1 e2=>?_)
  ·subst e1;subst e2;obtain⟨p,xs,rfl,h1,h2⟩:=u7 ha;obtain⟨q,ys,rfl,h3,h4⟩:=u7 hb;cases ru;cases rv;obtain⟨ac,r1,t1,_⟩:=I.tuple h1;obtain⟨bF,r2,t2,_⟩:=I.tuple h3;have l1:ac.toArray.size=ds.length:=by rw[o_,←r1.length,h2.length]
   have l2:bF.toArray.size=es.length:=by rw[o_,←r2.length,h4.length]
   have hk:∀j (g1:j < ac.toArray.size) (g2:j < bF.toArray.size),WJ A.in1 s ac.toArray[j] bF.toArray[j] (deq (ds.getD j .non) (es.getD j .non)):=λj g1 g2=>by
    obtain⟨v1,q1,q2⟩:=h2.getU r1 g1;obtain⟨v2,q3,q4⟩:=h4.getU r2 g2;refine(ih A.in1 fO (by omega) _ _ _ _ _ _ ?_ q2 q4 q1 q3).2.1
    have m1:ds.getD j .non∈ds:=by
     rw[j_,h_ (by omega)];exact RB _
    have m2:es.getD j .non∈es:=by
     rw[j_,h_ (by omega)];exact RB _
    have k1:=vy m1;have k2:=vy m2;rw[dep,dep] at hd;omega
   have re:((RR (min ac.toArray.size bF.toArray.size)).all (λj=>deq (ds.getD j .non) (es.getD j .non))&&ac.toArray.size == bF.toArray.size)=deqA ds es:=by
    rw[l1,l2];exact Aj ds es
   have R1:=RcAt.tuples (A:=A) t1 t2 (by omega) hk;have R3:=Wy.tuples (A:=A) t1 t2 (by omega) hk;rw[re] at R1 R3;have ed:deq (.tup ds) (.tup es)=deqA ds es:=by rw[deq]
   rw[ed];refine⟨R1,?_,R3⟩;by_cases hpq:p=q
   ·subst hpq;have:=yq I (by omega) (by omega) ha hb;cases this;rw[yz];exact .same _
   ·exact .of_refs hpq R1
  ·subst e1;subst e2;obtain⟨p,xs,rfl,h1,h2⟩:=u5 ha;obtain⟨q,ys,rfl,h3,h4⟩:=u5 hb;cases ru;cases rv;obtain⟨ac,r1,t1,_⟩:=I.list (rdL h1);obtain⟨bF,r2,t2,_⟩:=I.list (rdL h3);have t1:=t1.isList;have t2:=t2.isList;have l1:ac.toArray.size=ds.length:=by rw[o_,←r1.length,h2.length]
   have l2:bF.toArray.size=es.length:=by rw[o_,←r2.length,h4.length]
   have ed:deq (.lst ds) (.lst es)=deqA ds es:=by rw[deq]
   rw[ed]
   have fin:RcAt A s (.ref p) (.ref q) (deqA ds es)/\Wy A s (.ref p) (.ref q) (!deqA ds es):=by
    by_cases hl:ds.length=es.length
    ·have hk:∀j (g1:j < ac.toArray.size) (g2:j < bF.toArray.size),WJ A.in1 s ac.toArray[j] bF.toArray[j] (deq (ds.getD j .non) (es.getD j .non)):=λj g1 g2=>by
      obtain⟨v1,q1,q2⟩:=h2.getU r1 g1;obtain⟨v2,q3,q4⟩:=h4.getU r2 g2;refine(ih A.in1 fO (by omega) _ _ _ _ _ _ ?_ q2 q4 q1 q3).2.1
      have m1:ds.getD j .non∈ds:=by
       rw[j_,h_ (by omega)];exact RB _
      have m2:es.getD j .non∈es:=by
       rw[j_,h_ (by omega)];exact RB _
      have k1:=vy m1;have k2:=vy m2;rw[dep,dep] at hd;omega
     have re:(RR ac.toArray.size).all (λj=>deq (ds.getD j .non) (es.getD j .non))=deqA ds es:=by
      rw[←Aj ds es,l1,hl,Nat.min_self,beq_self_eq_true,Bool.and_true]
     have R1:=RcAt.lists (A:=A) t1 t2 (by omega) (by omega) hk;have R3:=Wy.lists (A:=A) t1 t2 (by omega) (by omega) hk;rw[re] at R1 R3;exact⟨R1,R3⟩
    ·rw[K0 hl];have eJ:(ac.toArray.size != bF.toArray.size)=true:=by rw[l1,l2];simpa using hl
     exact⟨.lists_lengths t1 t2 eJ (by omega),.lists_lengths t1 t2 eJ (by omega)⟩
   refine⟨fin.1,?_,fin.2⟩;by_cases hpq:p=q
   ·subst hpq;have:=yq I (by omega) (by omega) ha hb;cases this;rw[yz];exact .same _
   ·exact .of_refs hpq fin.1
noncomputable def rEqD(K:PySem.W.Frag)(neg:Bool):R2:=λx y H Q=>∃a b,Is K H a x/\Is K H b y/\(dep a<=100/\dep b<=100)/\Q (.bl (if neg then !deq a b else deq a b)) H
theorem Gs(hu:X.A.units+100 < Sa):OpR X (Rq .Eq) (rEqD X.K false):=by
 intro aa s U H x y v u Q I rx ry h;obtain⟨a,b,h1,h2,h3,q⟩:=h;exact(xy I 100 X.A hu (by decide) a b x y v u h3 h1 h2 rx ry).1 _ _ _ _ ⟨.bl (deq a b),H,I,rfl,q⟩
theorem BW(hu:X.A.units+100 < Sa):OpR X (Rq .NotEq) (rEqD X.K true):=by
 intro aa s U H x y v u Q I rx ry h;obtain⟨a,b,h1,h2,h3,q⟩:=h;exact(xy I 100 X.A hu (by decide) a b x y v u h3 h1 h2 rx ry).2.2 _ _ _ _ ⟨.bl (!deq a b),H,I,rfl,q⟩
noncomputable def rInD(K:PySem.W.Frag)(neg:Bool):R2:=λx y H Q=>∃a ds,Is K H a x/\(Is K H (.lst ds) y\/Is K H (.tup ds) y)/\(dep a<=99/\depA ds<=99)/\Q (.bl (if neg then !ds.any (λd=>deq d a) else ds.any λd=>deq d a)) H
theorem Lo{K:PySem.W.Frag}{f:D->Bool}{e:b_->Bool}(h:IsA K H ds xs)(r:Vals xs us)(hf:∀d v u,d∈ds->Is K H d v->RelV v u->e u=f d):us.any e=ds.any f:=by
 induction ds generalizing xs us with
 | nil=>have:=h.nil_inv;subst this;cases r;rfl
 | cons d ds ih =>
  obtain⟨x,xr,rfl,h1,h2⟩:=h.cons_inv;cases r with
  | cons r1 r2 =>
   rw[Wk,Wk,hf d _ _ v_ h1 r1,ih h2 r2 λd v u hd=>hf d v u (s_ _ hd)]
theorem JN(hu:X.A.units+100 < Sa){aa:List (g_×Obj)}{U:L2.St}{H:Hp}{s:c_}{x y:V}{v u:b_}{Q:VK}(I:Inv X aa U H s)(rx:RelV x v)(ry:RelV y u)(h:rInD X.K neg x y H Q):
  ∃(ac:Array b_) (e:b_->Bool) (l:g_),u=.ref l/\(s.heap.IsList l ac\/s.heap.IsTuple l ac)/\(∀z,z∈ac->PySem.SeqAt.EqAt X.A.in1 s z v (e z))/\Q (.bl (if neg then !ac.any e else ac.any e)) H:=by
 obtain⟨a,ds,h1,h2,h3,q⟩:=h;have fO:X.A.in1.units+99 < Sa:=by show X.A.units+1+99 < Sa;omega
 -- every item has ac data: e reads it lU
 have bp:∀(xs:List V) (ac:List b_),IsA X.K H ds xs->Vals xs ac->∃e:b_->Bool,(∀z,z∈ac.toArray->PySem.SeqAt.EqAt X.A.in1 s z v (e z))/\ac.toArray.any e=ds.any λd=>deq d a:=by
  intro xs ac ha r
  have ex:∀z:b_,∃b:Bool,∀d w,d∈ds->Is X.K H d w->RelV w z->b=deq d a:=λz=>by
   by_cases hz:∃d w,d∈ds/\Is X.K H d w/\RelV w z
   ·obtain⟨d,w,hd,hi,hr⟩:=hz;refine⟨deq d a,λd' w' bS bC qK=>?_⟩;have:=RelV.inj hr qK;subst this;rw[yq I (by have:=vy hd;omega) (by have:=vy bS;omega) hi bC]
   ·exact⟨false,λd w hd hi hr=>absurd ⟨d,w,hd,hi,hr⟩ hz⟩
  refine⟨λz=>(ex z).choose,λz hz=>?_,?_⟩
  ·have qL:z∈ac:=by simpa using hz
   obtain⟨j,hj,ej⟩:=List.mem_iff_getElem.mp qL;obtain⟨w,q1,q2⟩:=ha.getU r (j:=j) (by simpa using hj)
   have n5:RelV w z:=by
    have:ac.toArray[j]'(by simpa using hj)=z:=by simpa using ej
    rw[←this];exact q1
   have hm:ds.getD j .non∈ds:=by
    have l1:=ha.length;have l2:=r.length;rw[j_,h_ (by omega)];exact RB _
   show PySem.SeqAt.EqAt X.A.in1 s z v (ex z).choose;rw[(ex z).choose_spec _ w hm q2 n5];exact(xy I 99 X.A.in1 fO (by decide) _ a w x z v ⟨by have:=vy hm;omega,h3.1⟩ q2 h1 n5 rx).2.1
  ·have:ac.toArray.any (λz=>(ex z).choose)=ac.any (λz=>(ex z).choose):=by simp
   rw[this];exact Lo ha r λd w z hd hi hr=>(ex z).choose_spec d w hd hi hr
 rcases h2 with h2 | h2
 ·obtain⟨l,xs,rfl,g1,g2⟩:=u5 h2;cases ry;obtain⟨ac,r,t,_⟩:=I.list (rdL g1);obtain⟨e,k1,k2⟩:=bp xs ac g2 r;exact⟨ac.toArray,e,l,rfl,.inl t.isList,k1,by rw[k2];exact q⟩
 ·obtain⟨l,xs,rfl,g1,g2⟩:=u7 h2;cases ry;obtain⟨ac,r,t,_⟩:=I.tuple g1;obtain⟨e,k1,k2⟩:=bp xs ac g2 r;exact⟨ac.toArray,e,l,rfl,.inr t,k1,by rw[k2];exact q⟩
theorem JM(hu:X.A.units+100 < Sa):OpR X (Rq .In) (rInD X.K false):=by
 intro aa s U H x y v u Q I rx ry h;obtain⟨ac,e,l,rfl,hl,he,q⟩:=JN hu I rx ry h
 rcases hl with hl | hl
 ·exact PySem.SeqAt.in_listAt e hl he ⟨.bl (ac.any e),H,I,rfl,q⟩
 ·exact PySem.SeqAt.in_tupleAt e hl he ⟨.bl (ac.any e),H,I,rfl,q⟩
end
end DL
set_option exponentiation.threshold 2000
namespace DL
open PySem PySem.Spec PyProof.Rows L2
noncomputable def intF(C:Int->Int->Bool)(g:Int->Int->D)(a b:D):Option D:=match a,b with
 | .int i,.int j=>if C i j then some (g i j) else none
 | _,_=>none
theorem Cu{C:Int->Int->Bool}{g:Int->Int->D}{a b:D}(h:intF C g a b=some d):∃i j,a=.int i/\b=.int j/\C i j=true/\d=g i j:=by
 unfold intF at h;split at h
 ·obtain⟨h1,h2⟩:=ve h;exact⟨_,_,rfl,rfl,h1,h2⟩
 ·cases h
noncomputable def tt2(_ _:Int):Bool:=true
theorem od_I{K:PySem.W.Frag}{C:Int->Int->Prop}{c:Int->Int->Bool}{g:Int->Int->Int}(hc:∀i j,c i j=true->C i j):OpD K (rI C λi j=>.int (g i j)) (intF c λi j=>.int (g i j)):=λa b d e B G I H U Γ x y Q r hx hy k=>by
 obtain⟨i,j,rfl,rfl,h,rfl⟩:=Cu e;exact⟨i,j,uZ hx,uZ hy,hc i j h,k.now r (Is.int _)⟩
theorem HM{K:PySem.W.Frag}{g:Int->Int->Int}:OpD K (rI0 λi j=>.int (g i j)) (intF tt2 λi j=>.int (g i j)):=λa b d e B G I H U Γ x y Q r hx hy k=>by
 obtain⟨i,j,rfl,rfl,h,rfl⟩:=Cu e;exact⟨i,j,uZ hx,uZ hy,k.now r (Is.int _)⟩
theorem we{K:PySem.W.Frag}{g:Int->Int->Bool}:OpD K (rI0 λi j=>.bl (g i j)) (intF tt2 λi j=>.bl (g i j)):=λa b d e B G I H U Γ x y Q r hx hy k=>by
 obtain⟨i,j,rfl,rfl,h,rfl⟩:=Cu e;exact⟨i,j,uZ hx,uZ hy,k.now r (Is.bl _)⟩
noncomputable def subI:D->D->Option D:=intF tt2 λi j=>.int (i - j)
noncomputable def mulI:D->D->Option D:=intF (λi j=>decide ((-(2 ^ 64) < i/\i < 2 ^ 64)\/(-(2 ^ 64) < j/\j < 2 ^ 64))) λi j=>.int (i*j)
noncomputable def modI:D->D->Option D:=intF (λ_ j=>decide (0 < j)) λi j=>.int (i % j)
noncomputable def divI:D->D->Option D:=intF (λ_ j=>decide (0 < j/\j < 2 ^ 200)) λi j=>.int (i / j)
noncomputable def powI:D->D->Option D:=intF (λi j=>decide (0<=j/\j<=1000000/\i.natAbs < 2 ^ 64)) λi j=>.int (i ^ j.toNat)
noncomputable def ltI:D->D->Option D:=intF tt2 λi j=>.bl (decide (i < j))
noncomputable def leI:D->D->Option D:=intF tt2 λi j=>.bl (decide (i<=j))
noncomputable def gtI:D->D->Option D:=intF tt2 λi j=>.bl (decide (j < i))
noncomputable def geI:D->D->Option D:=intF tt2 λi j=>.bl (decide (j<=i))
section
variable{B:BB}{a b c:L_}{es:List L_}{gb gc:M D}
theorem wc(ha:ED X B a ga)(hb:ED X B b gb):ED X B (.BinOp a .Sub b pos) (op2 subI ga gb):=wW M6 HM ha hb
theorem v6(ha:ED X B a ga)(hb:ED X B b gb):ED X B (.BinOp a .Mult b pos) (op2 mulI ga gb):=wW Mn (od_I (C:=CMul) λi j h=>(of_decide_eq_true h:_\/_)) ha hb
theorem vW(ha:ED X B a ga)(hb:ED X B b gb):ED X B (.BinOp a .Mod b pos) (op2 modI ga gb):=wW MO (od_I λi j h=>of_decide_eq_true h) ha hb
theorem yh(ha:ED X B a ga)(hb:ED X B b gb):ED X B (.BinOp a .Pow b pos) (op2 powI ga gb):=wW OJ (od_I (C:=CPow) λi j h=>(of_decide_eq_true h:_/\_/\_)) ha hb
def CDivW(i j:Int):Prop:=0 < j/\j < 2 ^ 200
theorem Kg:OpR X (R5 .FloorDiv) (rI CDivW λi j=>.int (i / j)):=opI λi j _ _ _ _ _ hc q=>by
 have h1:(0:Int) < j:=hc.1
 have h2:j.natAbs < 2 ^ 200:=by
  have:=hc.2;omega
 have h4:j.natAbs.log2 < 9000:=by
  have h5:j.natAbs.log2 < 200:=(Nat.log2_lt (by omega)).mpr h2;omega
 refine floordiv_int (by omega) ?_ (.inl (PyProof.noPylong_of_log2 h4));rw[Int.fdiv_eq_ediv_of_nonneg _ (Int.le_of_lt h1)];exact q
theorem LM(ha:ED X B a ga)(hb:ED X B b gb):ED X B (.BinOp a .FloorDiv b pos) (op2 divI ga gb):=wW Kg (od_I (C:=CDivW) λi j h=>(of_decide_eq_true h:_/\_)) ha hb
theorem Fx(ha:ED X B a ga)(hb:ED X B b gb):ED X B (.Compare a [.LtE] [b] pos) (op2 leI ga gb):=Ai yQ we ha hb (nomark _)
theorem wD(ha:ED X B a ga)(hb:ED X B b gb):TD X B (.Compare a [.Lt] [b] pos) (tst (op2 ltI ga gb)):=wF A9 we ha hb (nomark _)
theorem GC(ha:ED X B a ga)(hb:ED X B b gb):TD X B (.Compare a [.Gt] [b] pos) (tst (op2 gtI ga gb)):=wF N3 we ha hb (nomark _)
theorem KU(ha:ED X B a ga)(hb:ED X B b gb):TD X B (.Compare a [.GtE] [b] pos) (tst (op2 geI ga gb)):=wF NQ we ha hb (nomark _)
theorem Jr(ha:ED X B a ga)(hb:ED X B b gb)(hc:ED X B c gc)(hm:Uo [.LtE,.LtE] [b,c]=false:=by with_unfolding_all rfl):ED X B (.Compare a [.LtE,.LtE] [b,c] pos) (chn leI leI ga gb gc):=Do yQ we yQ we ha hb hc hm
theorem O0(ha:ED X B a ga)(hb:ED X B b gb)(hc:ED X B c gc)(hm:Uo [.LtE,.Lt] [b,c]=false:=by with_unfolding_all rfl):ED X B (.Compare a [.LtE,.Lt] [b,c] pos) (chn leI ltI ga gb gc):=Do yQ we A9 we ha hb hc hm
theorem GE(ha:ED X B a ga)(hb:ED X B b gb)(hc:ED X B c gc)(hm:Uo [.LtE,.Lt] [b,c]=false:=by with_unfolding_all rfl):TD X B (.Compare a [.LtE,.Lt] [b,c] pos) (tst (chn leI ltI ga gb gc)):=HS yQ we A9 we ha hb hc hm
noncomputable def eqF(neg:Bool)(a b:D):Option D:=if dep a<=100/\dep b<=100 then some (.bl (if neg then !deq a b else deq a b)) else none
theorem Ak{K:PySem.W.Frag}:OpD K (rEqD K neg) (eqF neg):=λa b d e B G I H U Γ x y Q r hx hy k=>by
 obtain⟨h1,rfl⟩:=ve e;exact⟨a,b,hx.mono r.iH,hy.mono r.iH,h1,k.now r (Is.bl _)⟩
variable {kr:Nat}
theorem hu100{k:Nat}(hr:Room k A):A.units+100 < Sa:=by have:=hr.un;omega
theorem AJ(hr:Room kr X.A)(ha:ED X B a ga)(hb:ED X B b gb):ED X B (.Compare a [.Eq] [b] pos) (op2 (eqF false) ga gb):=Ai (Gs (hu100 hr)) Ak ha hb (nomark _)
theorem NC(hr:Room kr X.A)(ha:ED X B a ga)(hb:ED X B b gb):ED X B (.Compare a [.NotEq] [b] pos) (op2 (eqF true) ga gb):=Ai (BW (hu100 hr)) Ak ha hb (nomark _)
theorem u0(hr:Room kr X.A)(ha:ED X B a ga)(hb:ED X B b gb):TD X B (.Compare a [.Eq] [b] pos) (tst (op2 (eqF false) ga gb)):=wF (Gs (hu100 hr)) Ak ha hb (nomark _)
theorem vF(hr:Room kr X.A)(ha:ED X B a ga)(hb:ED X B b gb):TD X B (.Compare a [.NotEq] [b] pos) (tst (op2 (eqF true) ga gb)):=wF (BW (hu100 hr)) Ak ha hb (nomark _)
noncomputable def inF(neg:Bool)(a b:D):Option D:=match seqI b with
 | some ds=>if dep a<=99/\depA ds<=99 then some (.bl (if neg then !ds.any (λd=>deq d a) else ds.any λd=>deq d a)) else none
 | none=>none
theorem Km{K:PySem.W.Frag}:OpD K (rInD K neg) (inF neg):=λa b d e B G I H U Γ x y Q r hx hy k=>by
 unfold inF at e;cases b with
 | lst ds =>
  obtain⟨h1,rfl⟩:=ve e;exact⟨a,ds,hx.mono r.iH,.inl (hy.mono r.iH),h1,k.now r (Is.bl _)⟩
 | tup ds =>
  obtain⟨h1,rfl⟩:=ve e;exact⟨a,ds,hx.mono r.iH,.inr (hy.mono r.iH),h1,k.now r (Is.bl _)⟩
 | _=>cases e
theorem La(hr:Room kr X.A)(ha:ED X B a ga)(hb:ED X B b gb)(hm:Sv .In b=false:=by rfl):TD X B (.Compare a [.In] [b] pos) (tst (op2 (inF false) ga gb)):=wF (JM (hu100 hr)) Km ha hb hm
noncomputable def rCatTT(K:PySem.W.Frag):R2:=λx y H Q=>∃a b xs ys,x=.ref a/\y=.ref b/\SqT K H a xs/\SqT K H b ys/\xs.length+ys.length<=D_ ∧
 (xs=[]->Q (.ref b) H)/\(xs≠[]->ys=[]->Q (.ref a) H)/\(xs≠[]->ys≠[]->∀p,H p=none->Q (.ref p) (upd H p (.tup (xs++ys))))
theorem J2:OpR X (R5 .Add) (rCatTT X.K):=by
 intro aa s U H x y v u Q I rx ry h;obtain⟨a,b,xs,ys,rfl,rfl,ha,hb,hz,q0,q1,q2⟩:=h;cases rx;cases ry;obtain⟨ac,r1,p1,_⟩:=I.tuple ha;obtain⟨cx,r2,p2,_⟩:=I.tuple hb;by_cases hx:xs=[]
 ·subst hx;cases r1;obtain⟨⟨cls,dd,data,sl⟩,ho,hc,n,hd⟩:=id p1;obtain⟨⟨nK,jE,data2,jF⟩,fH,dH,n2,dJ⟩:=id p2;simp only at hc hd dH dJ;subst hc hd dH dJ
  exact Wh ⟨_,ho,rfl⟩ ⟨_,fH,rfl⟩ UW V2 Vy Vn (UX _ _)
   (tuple_addW0 a b _ cx.toArray n n2 dd jE sl jF (by simp)) ⟨ho,fH,⟨.ref b,H,I,rfl,q0 rfl⟩⟩
 ·exact Le aa s U H (.ref a) (.ref b) _ _ Q I rfl rfl ⟨a,b,xs,ys,rfl,rfl,ha,hb,hx,hz,q1 hx,q2 hx⟩
noncomputable def addF(a b:D):Option D:=match a,b with
 | .int i,.int j=>some (.int (i+j))
 | .tup xs,.tup ys=>if xs.length+ys.length<=lim then some (.tup (xs++ys)) else none
 | .str x,.str y=>if x.length+y.length<=lim then some (.str (x++y)) else none
 | _,_=>none
theorem IsA.ne_nil{K:PySem.W.Frag}(h:IsA K I ds xs):xs=[]↔ds=[]:=by
 have:=h.length;constructor
 ·intro e;subst e;exact RG.mp this
 ·intro e;subst e;exact RG.mp this.symm
theorem u8(ha:ED X B a ga)(hb:ED X B b gb):ED X B (.BinOp a .Add b pos) (op2 addF ga gb):=wW ((Nb.or J2).or Hq) (λa b d e B G I H U Γ x y Q r hx hy k=>by
 unfold addF at e;split at e
 ·cases e;exact .inl (.inl ⟨_,_,uZ hx,uZ hy,k.now r (Is.int _)⟩)
 ·obtain⟨hl,rfl⟩:=ve e;obtain⟨p,xs,rfl,h1,h2⟩:=u7 hx;obtain⟨q,ys,rfl,h3,h4⟩:=u7 hy;refine .inl (.inr ⟨p,q,xs,ys,rfl,rfl,Same.sqT r.iH h1,Same.sqT r.iH h3,by rw[←h2.length,←h4.length];exact xh hl,λz=>?_,λ_ z=>?_,λ_ _ p' hp=>k.tup r hp (IsA.append h2 h4)⟩)
  ·have:=h2.ne_nil.mp z;subst this;exact k.now r (Is.tup h3 h4)
  ·have:=h4.ne_nil.mp z;subst this;rw[Rx] at k;exact k.now r (Is.tup h1 h2)
 ·obtain⟨hl,rfl⟩:=ve e;exact .inr ⟨_,_,vQ hx,vQ hy,xh hl,k.now r (Is.str _)⟩
 ·cases e) ha hb
noncomputable def rCatR(K:PySem.W.Frag):R2:=λx y H Q=>∃l b xs zs,x=.ref l/\y=.ref b/\RdK K H l xs/\RdK K H b zs/\xs.length+zs.length<=D_/\∀p,H p=none->Q (.ref p) (upd H p (.lst (xs++zs)))
theorem M':OpR X (R5 .Add) (rCatR X.K):=by
 intro aa s U H x y v u Q I rx ry h;obtain⟨l,b,xs,zs,rfl,rfl,hH,hB,hz,q⟩:=h;cases rx;cases ry;obtain⟨z,ac,n,r,hl,e⟩:=Cb I hH;obtain⟨z2,cx,n2,r2,eD,e2⟩:=Cb I hB;refine PySem.P.add_list e e2 ?_ (by rw[o_,o_];omega);have ea:ac.toArray++cx.toArray=(ac++cx).toArray:=by simp
 rw[ea];exact⟨.ref _,_,I.lnew (t':=s.toks) (r.append r2) (by rw[QZ];omega),rfl,q _ I.fresh⟩
noncomputable def catF(a b:D):Option (List D):=match a,b with
 | .lst xs,.lst ys=>if xs.length+ys.length<=lim then some (xs++ys) else none
 | _,_=>none
theorem vk(ha:ED X B a ga)(hb:ED X B b gb):EO X B (.BinOp a .Add b pos) (op2 catF ga gb):=MY M' (λa b d e B G I H U Γ x y Q r hx hy k=>by
 unfold catF at e;split at e
 ·obtain⟨hl,rfl⟩:=ve e;obtain⟨p,xs,rfl,h1,h2⟩:=u5 hx;obtain⟨q,ys,rfl,h3,h4⟩:=u5 hy;exact⟨p,q,xs,ys,rfl,rfl,Same.rdK r.iH h1,Same.rdK r.iH h3,by rw[←h2.length,←h4.length];exact xh hl,λp' hp=>k.new r hp (IsA.append h2 h4)⟩
 ·cases e) ha hb
theorem IsA.at{K:PySem.W.Frag}{I:Hp}{ds:List D}{xs:List V}{i:Int}{d:D}(h:IsA K I ds xs)(e:atI ds i=some d):∃x,atI xs i=some x/\Is K I d x:=by
 unfold atI at e ⊢;rw[←h.length];cases hj:ixN ds.length i with
 | none=>rw[hj] at e;cases e
 | some j =>
  rw[hj] at e;exact h.get e
noncomputable def ixF(a b:D):Option D:=match seqI a,asI b with
 | some ds,some i=>atI ds i
 | _,_=>none
theorem FC{a b:D}(h:ixF a b=some d):∃ds i,(a=.lst ds\/a=.tup ds)/\b=.int i/\atI ds i=some d:=by
 unfold ixF at h;cases a<;>cases b<;>simp[seqI,asI] at h
 ·exact⟨_,_,.inr rfl,rfl,h⟩
 ·exact⟨_,_,.inl rfl,rfl,h⟩
theorem t5(ha:ED X B a ga)(hb:ED X B b gb)(hs:PlainIx b:=by exact λ_ _=>rfl):ED X B (.Subscript a b pos) (op2 ixF ga gb):=Ny (EC.or Mh) (λa b d e B G I H U Γ x y Q r hx hy k=>by
 obtain⟨ds,i,h1,rfl,h2⟩:=FC e
 rcases h1 with rfl | rfl
 ·obtain⟨p,xs,rfl,h3,h4⟩:=u5 hx;obtain⟨v,e5,e6⟩:=h4.at h2;exact .inl ⟨p,xs,i,v,rfl,uZ hy,(Same.rdK r.iH h3).sq,e5,k.now r e6⟩
 ·obtain⟨p,xs,rfl,h3,h4⟩:=u7 hx;obtain⟨v,e5,e6⟩:=h4.at h2
  exact .inr ⟨p,xs,i,v,rfl,uZ hy,Same.sqT r.iH h3,e5,k.now r e6⟩) ha hb hs
noncomputable def look(i:Nat):M D:=λΓ=>match Γ[i]? with
 | some (some (.own ds))=>some (.lst ds,Γ)
 | some (some (.bor ds))=>some (.lst ds,Γ)
 | _=>none
theorem CM{K:PySem.W.Frag}{H:Hp}{i:Nat}(h:look i Γ=some (d,ae))(r:Rep K B G I H U Γ):ae=Γ/\∃p xs ds,d=.lst ds/\U[i]?=some (some (.ref p))/\H p=some (.lst xs)/\IsA K I ds xs:=by
 unfold look at h;cases e:Γ[i]? with
 | none=>rw[e] at h;cases h
 | some o =>
  cases o with
  | none=>rw[e] at h;cases h
  | some q =>
   rw[e] at h;obtain⟨v,h1,h2⟩:=r.slot i q e;cases q with
   | val _=>cases h
   | own ds=>cases h;obtain⟨p,xs,rfl,g1,_,_,g4⟩:=h2;exact⟨rfl,p,xs,ds,rfl,h1,g1,g4⟩
   | fro ds=>cases h
   | dic ds=>cases h
   | bor ds=>cases h;obtain⟨p,xs,rfl,g1,_,_,g4⟩:=h2;exact⟨rfl,p,xs,ds,rfl,h1,g1,g4⟩
noncomputable def atN(i:Nat)(g:M D):M D:=mutS i (bnd g λn=>bnd (look i) λl=>lft (ixF l n))
theorem vO{i:Nat}{x:Str}{p1:Pos}(hv:PE X (.Name x p1) (tVar i))(hb:ED X B b gb)(hs:PlainIx b:=by exact λ_ _=>rfl):ED X B (.Subscript (.Name x p1) b pos) (atN i gb):=PE.imp (G8 EC hv hb hs) λU H Q q=>by
 obtain⟨G,I,Γ,d,ae,r,e1,k⟩:=q;obtain⟨hm,e1⟩:=xH e1;obtain⟨n,Γ1,e2,e3⟩:=uP e1;obtain⟨l,Γ2,e4,e5⟩:=uP e3;obtain⟨e6,rfl⟩:=u6 e5;obtain⟨p,xs,h1,h2⟩:=xb hm r;refine⟨_,h1,G,I,Γ,n,Γ1,r,e2,λv H1 I1 r1 g1 hn=>?_⟩;obtain⟨rfl,p',cb,ds,rfl,f1,f2,f3⟩:=CM e4 r1;have hp:p'=p:=by rw[h1] at f1;cases f1;rfl
 subst hp;obtain⟨eF,j,g2,rfl,g3⟩:=FC e6
 rcases g2 with g2 | g2
 ·cases g2;obtain⟨y,e7,e8⟩:=f3.at g3;exact⟨p',cb,j,y,rfl,uZ hn,SqL.of f2,e7,(k.after g1).now r1 e8⟩
 ·cases g2
noncomputable def lenF(ds:List D):Option D:=match ds with
 | [.lst xs]=>some (.int xs.length)
 | [.tup xs]=>some (.int xs.length)
 | _=>none
theorem Lm(h:lenF ds=some d):∃xs,(ds=[.lst xs]\/ds=[.tup xs])/\d=.int xs.length:=by
 unfold lenF at h;split at h
 ·cases h;exact⟨_,.inl rfl,rfl⟩
 ·cases h;exact⟨_,.inr rfl,rfl⟩
 ·cases h
theorem vt{p:Pos}{t:M (List D)}(hg:Gl X "len")(hm:X.mg "len"=none)(ha:AD X B [e] t)(he:f_ [e] X.env=(false,eval e X.env)::f_ [] X.env:=by rfl)(aB:(P_ pos (f_ [] X.env)).any (·.1)=false:=by rfl):
  ED X B (.Call (.Name "len" p) [e] [] pos) (fn1 lenF t):=wB FB (λds d e B G I H U Γ xs Q r h k=>by
 obtain⟨ys,h1,rfl⟩:=Lm e
 rcases h1 with rfl | rfl
 ·obtain⟨x,rfl,hx⟩:=h.one;obtain⟨q,zs,rfl,h3,h4⟩:=u5 hx;exact⟨q,zs,rfl,.inl ((Same.rdK r.iH h3).sq),by rw[h4.length] at k;exact k.now r (Is.int _)⟩
 ·obtain⟨x,rfl,hx⟩:=h.one;obtain⟨q,zs,rfl,h3,h4⟩:=u7 hx
  exact⟨q,zs,rfl,.inr (Same.sqT r.iH h3),by rw[h4.length] at k;exact k.now r (Is.int _)⟩) hg hm PySem.boot_len ha (by decide) (by decide) he aB
noncomputable def lenN(i:Nat):M D:=bnd (look i) λl=>lft (lenF [l])
theorem Da{i:Nat}{x:Str}{p p1:Pos}(hg:Gl X "len")(hm:X.mg "len"=none)(hv:PE X (.Name x p1) (tVar i))(he:f_ [.Name x p1] X.env=(false,eval (.Name x p1) X.env)::f_ [] X.env:=by rfl)(aB:(P_ pos (f_ [] X.env)).any (·.1)=false:=by rfl):
  ED X B (.Call (.Name "len" p) [.Name x p1] [] pos) (lenN i):=PE.imp (yC FB hg hm PySem.boot_len (vI hv wO he) (by decide) (by decide) he aB) λU H Q q=>by
 obtain⟨G,I,Γ,d,ae,r,e1,k⟩:=q;obtain⟨l,Γ1,e2,e3⟩:=uP e1;obtain⟨e4,rfl⟩:=u6 e3;obtain⟨rfl,q,xs,ds,rfl,f1,f2,f3⟩:=CM e2 r;cases e4;exact⟨_,f1,q,xs,rfl,.inl (SqL.of f2),by rw[f3.length] at k;exact k.now r (Is.int _)⟩
noncomputable def cmpN(neg:Bool)(i:Nat)(g:M D):M D:=mutS i (bnd g λd=>bnd (look i) λl=>lft (eqF neg l d))
theorem Mz{K:PySem.W.Frag}{i:Nat}:∀U H Q,tD K B (cmpN neg i gb) U H Q->tOp (rEqD K neg) (tVar i) (tD K B gb) U H Q:=λU H Q q=>by
 obtain⟨G,I,Γ,d,ae,r,e1,k⟩:=q;obtain⟨hm,e1⟩:=xH e1;obtain⟨n,Γ1,e2,e3⟩:=uP e1;obtain⟨l,Γ2,e4,e5⟩:=uP e3;obtain⟨e6,rfl⟩:=u6 e5;obtain⟨p,xs,h1,h2⟩:=xb hm r;refine⟨_,h1,G,I,Γ,n,Γ1,r,e2,λv H1 I1 r1 g1 hn=>?_⟩;obtain⟨rfl,p',cb,ds,rfl,f1,f2,f3⟩:=CM e4 r1;have hp:p'=p:=by rw[h1] at f1;cases f1;rfl
 subst hp;obtain⟨hd,rfl⟩:=ve e6;exact⟨.lst ds,n,Is.lst (RdK.of f2) (f3.mono r1.iH),hn.mono r1.iH,hd,(k.after g1).now r1 (Is.bl _)⟩
theorem Fe{i:Nat}{x:Str}{p1:Pos}(hr:Room kr X.A)(hv:PE X (.Name x p1) (tVar i))(hb:ED X B b gb):TD X B (.Compare (.Name x p1) [.NotEq] [b] pos) (tst (cmpN true i gb)):=PT.imp (Gj (BW (hu100 hr)) hv hb (nomark _)) (zf Mz)
def partD(e:Option L_)(X:Cx)(B:BB)(g:M (Option Int)):Prop:=PO X e (λU H Q=>∃G I Γ o ae,Rep X.K B G I H U Γ/\g Γ=some (o,ae)/\∀H' I',Rep X.K B G I' H' U ae->Grow G I I'->Q o H')
theorem wJ:partD none X B (ret none):=λaa s U H Q I h=>JS aa s U H Q I (by
 obtain⟨G,I,Γ,o,ae,r,e1,k⟩:=h;cases e1
 exact k _ _ r (Grow.refl _ _))
noncomputable def prt(g:M D):M (Option Int):=bnd g λd=>bnd (lft (asI d)) λi=>ret (some i)
theorem wd(ha:ED X B a ga):partD (some a) X B (prt ga):=λaa s U H Q I h=>Of ha aa s U H Q I (by
 obtain⟨G,I,Γ,o,ae,r,e1,k⟩:=h;obtain⟨d,Γ1,e2,e3⟩:=uP e1;obtain⟨i,Γ2,e4,e5⟩:=uP e3;cases e5;obtain⟨e6,rfl⟩:=u6 e4;have:=CQ e6;subst this
 exact⟨G,I,Γ,_,_,r,e2,λv H1 I1 r1 g1 hv=>⟨i,uZ hv,k _ _ r1 g1⟩⟩)
noncomputable def cutD(ds:List D)(lo hi:Option Int):List D:=(ds.drop (HT.sIx ds.length 0 lo)).take (HT.sIx ds.length ds.length hi - HT.sIx ds.length 0 lo)
theorem IsA.cut{K:PySem.W.Frag}(h:IsA K I ds xs)(lo hi:Option Int):IsA K I (cutD ds lo hi) (cutV xs lo hi):=by
 unfold cutD cutV;rw[←h.length];exact(h.drop _).take _
noncomputable def slF(d:D)(lo hi:Option Int):Option D:=match d with
 | .lst ds=>some (.lst (cutD ds lo hi))
 | .tup ds=>if HT.sIx ds.length 0 lo=0/\HT.sIx ds.length ds.length hi=ds.length then none else some (.tup (cutD ds lo hi))
 | _=>none
noncomputable def sl3{α:Type}(F:D->Option Int->Option Int->Option α)(g:M D)(gl gh:M (Option Int)):M α:=bnd g λd=>bnd gl λl=>bnd gh λh=>lft (F d l h)
theorem wk{lo hi:Option L_}{p2:Pos}(ha:ED X B a ga)(hl:partD lo X B gl)(hh:partD hi X B gh):ED X B (.Subscript a (.Slice lo hi none p2) pos) (sl3 slF ga gl gh):=PE.imp (IU (MQ.or KI) ha hl hh) λU H Q q=>by
 obtain⟨G,I,Γ,d,ae,r,e1,k⟩:=q;obtain⟨c,Γ1,e2,e3⟩:=uP e1;obtain⟨l,Γ2,e4,e5⟩:=uP e3;obtain⟨h,aI,e6,e7⟩:=uP e5;obtain⟨e8,rfl⟩:=u6 e7;refine⟨G,I,Γ,c,Γ1,r,e2,λv H1 I1 r1 g1 hv=>⟨G,I1,Γ1,l,Γ2,r1,e4,λH2 I2 r2 g2=>⟨G,I2,Γ2,h,_,r2,e6,λH3 I3 r3 g3=>?_⟩⟩⟩;have gg:=g1.trans (g2.trans g3);have n6:=hv.mono (g2.trans g3).up;cases c with
 | lst ds =>
  cases e8;obtain⟨p,xs,rfl,h3,h4⟩:=u5 n6;refine .inl ⟨p,xs,rfl,(Same.rdK r3.iH h3).sq,λp' hp=>?_⟩;exact(k.after gg) _ _ _ (r3.alloc hp _) (r3.growAlloc hp _) (Is.lst (RdK.of u3) ((h4.cut l h).mono (vq (r3.iFree hp) _)))
 | tup ds =>
  unfold slF at e8;by_cases hw:HT.sIx ds.length 0 l=0/\HT.sIx ds.length ds.length h=ds.length
  ·simp only[hw,and_self,if_true] at e8;cases e8
  ·simp only[if_neg hw] at e8;cases e8;obtain⟨p,xs,rfl,h3,h4⟩:=u7 n6;exact .inr ⟨p,xs,rfl,Same.sqT r3.iH h3,by rw[←h4.length];exact hw,λp' hp=>(k.after gg).tup r3 hp (h4.cut l h)⟩
 | _=>cases e8
noncomputable def minF(ds:List D):Option D:=match ds with
 | [.int i,.int j]=>some (.int (if j < i then j else i))
 | _=>none
noncomputable def maxF(ds:List D):Option D:=match ds with
 | [.int i,.int j]=>some (.int (if j > i then j else i))
 | _=>none
theorem yu{p:Pos}{t:M (List D)}(hc:X.calm=true)(hg:Gl X "min")(hm:X.mg "min"=none)(ha:AD X B (e::es) t)(he:f_ (e::es) X.env=(false,eval e X.env)::f_ es X.env:=by rfl)(aB:(P_ pos (f_ es X.env)).any (·.1)=false:=by rfl):
  ED X B (.Call (.Name "min" p) (e::es) [] pos) (fn1 minF t):=wB (N0 hc) (λds d e B G I H U Γ xs Q r h k=>by
 unfold minF at e;split at e
 ·cases e;obtain⟨x,y,rfl,hx,hy⟩:=h.two;exact⟨_,_,by rw[uZ hx,uZ hy],k.now r (Is.int _)⟩
 ·cases e) hg hm WX ha (by decide) (by decide) he aB
theorem zJ{p:Pos}{t:M (List D)}(hc:X.calm=true)(hg:Gl X "max")(hm:X.mg "max"=none)(ha:AD X B (e::es) t)(he:f_ (e::es) X.env=(false,eval e X.env)::f_ es X.env:=by rfl)(aB:(P_ pos (f_ es X.env)).any (·.1)=false:=by rfl):
  ED X B (.Call (.Name "max" p) (e::es) [] pos) (fn1 maxF t):=wB (HQ hc) (λds d e B G I H U Γ xs Q r h k=>by
 unfold maxF at e;split at e
 ·cases e;obtain⟨x,y,rfl,hx,hy⟩:=h.two;exact⟨_,_,by rw[uZ hx,uZ hy],k.now r (Is.int _)⟩
 ·cases e) hg hm boot_max ha (by decide) (by decide) he aB
noncomputable def tupF(ds:List D):Option D:=match ds with
 | [.lst xs]=>some (.tup xs)
 | [.tup xs]=>some (.tup xs)
 | _=>none
noncomputable def lstF(ds:List D):Option (List D):=match ds with
 | [.lst xs]=>some xs
 | [.tup xs]=>some xs
 | _=>none
theorem yP{p:Pos}{t:M (List D)}(hg:Gl X "tuple")(hm:X.mg "tuple"=none)(ha:AD X B [e] t)(he:f_ [e] X.env=(false,eval e X.env)::f_ [] X.env:=by rfl)(aB:(P_ pos (f_ [] X.env)).any (·.1)=false:=by rfl):
  ED X B (.Call (.Name "tuple" p) [e] [] pos) (fn1 tupF t):=LZ Hm (λds d e B G I H U Γ xs Q r h k=>by
 unfold tupF at e;split at e
 ·cases e;obtain⟨x,rfl,hx⟩:=h.one;obtain⟨q,zs,rfl,h3,h4⟩:=u5 hx;exact⟨q,zs,rfl,.inl ⟨(Same.rdK r.iH h3).sq,λp' hp=>k.tup r hp h4⟩⟩
 ·cases e;obtain⟨x,rfl,hx⟩:=h.one;obtain⟨q,zs,rfl,h3,h4⟩:=u7 hx;exact⟨q,zs,rfl,.inr ⟨Same.sqT r.iH h3,k.now r (Is.tup h3 h4)⟩⟩
 ·cases e) hg hm boot_tuple ha (by decide) (by decide) he aB
theorem AQ{p:Pos}{t:M (List D)}(hg:Gl X "list")(hm:X.mg "list"=none)(ha:AD X B [e] t)(he:f_ [e] X.env=(false,eval e X.env)::f_ [] X.env:=by rfl)(aB:(P_ pos (f_ [] X.env)).any (·.1)=false:=by rfl):
  EO X B (.Call (.Name "list" p) [e] [] pos) (fn1 lstF t):=O4 IF (λds d e B G I H U Γ xs Q r h k=>by
 unfold lstF at e;split at e
 ·cases e;obtain⟨x,rfl,hx⟩:=h.one;obtain⟨q,zs,rfl,h3,h4⟩:=u5 hx;exact⟨q,zs,rfl,.inl ((Same.rdK r.iH h3).sq),λp' hp=>k.new r hp h4⟩
 ·cases e;obtain⟨x,rfl,hx⟩:=h.one;obtain⟨q,zs,rfl,h3,h4⟩:=u7 hx;exact⟨q,zs,rfl,.inr (Same.sqT r.iH h3),λp' hp=>k.new r hp h4⟩
 ·cases e) hg hm boot_list ha (by decide) (by decide) he aB
noncomputable def isN(d:D):Bool:=match d with
 | .non=>true
 | _=>false
noncomputable def isNF(neg:Bool)(a b:D):Option D:=match b with
 | .non=>some (.bl (if neg then !isN a else isN a))
 | _=>none
theorem Gr{K:PySem.W.Frag}{a:D}{x:V}(h:Is K I a x):decide (x=V.non)=isN a:=by
 cases a with
 | non=>rw[v5 h];rfl
 | bl _=>rw[vx h];rfl
 | int _=>rw[uZ h];rfl
 | str _=>rw[vQ h];rfl
 | tup _=>obtain⟨_,_,rfl,_⟩:=u7 h;rfl
 | lst _=>obtain⟨_,_,rfl,_⟩:=u5 h;rfl
 | exc _ _=>obtain⟨_,_,rfl,_⟩:=Aq h;rfl
theorem CZ{K:PySem.W.Frag}:OpD K (λx y H Q=>y=.non/\Q (.bl (decide (x=.non))) H) (isNF false):=λa b d e B G I H U Γ x y Q r hx hy k=>by
 unfold isNF at e;split at e
 ·cases e;exact⟨v5 hy,by rw[Gr hx];exact k.now r (Is.bl _)⟩
 ·cases e
theorem JY{K:PySem.W.Frag}:OpD K (λx y H Q=>y=.non/\Q (.bl (!decide (x=.non))) H) (isNF true):=λa b d e B G I H U Γ x y Q r hx hy k=>by
 unfold isNF at e;split at e
 ·cases e;exact⟨v5 hy,by rw[Gr hx];exact k.now r (Is.bl _)⟩
 ·cases e
theorem JI(ha:ED X B a ga)(hb:ED X B b gb):ED X B (.Compare a [.Is] [b] pos) (op2 (isNF false) ga gb):=Ai EI CZ ha hb (nomark _)
theorem F4(ha:ED X B a ga)(hb:ED X B b gb):TD X B (.Compare a [.Is] [b] pos) (tst (op2 (isNF false) ga gb)):=wF EI CZ ha hb (nomark _)
theorem HE(ha:ED X B a ga)(hb:ED X B b gb):TD X B (.Compare a [.IsNot] [b] pos) (tst (op2 (isNF true) ga gb)):=wF Jk JY ha hb (nomark _)
end
structure Kd where
 it:K_->g_->g_->Nat->Prop
 sq:K_->g_->Array b_->Prop
 nm:String
structure KdOk(k:Kd):Prop where
 itAt:∀{h h':K_}{i l:g_}{n:Nat},k.it h i l n->(∀o,h.get? i=some o->h'.get? i=some o)->k.it h' i l n
 sqAt:∀{h h':K_}{l:g_}{xs:Array b_},k.sq h l xs->(∀o,h.get? l=some o->h'.get? l=some o)->k.sq h' l xs
 itLt:∀{h:K_}{i l:g_}{n:Nat},k.it h i l n->i < h.objs.size
 sqLt:∀{h:K_}{l:g_}{xs:Array b_},k.sq h l xs->l < h.objs.size
 itObj:∀{h:K_}{i l:g_}{n:Nat},k.it h i l n->∃o,h.get? i=some o/\∀v,o.data≠.cell v
 iter:∀{prog:u_}{w:C_}{A:Rh}{E:b_->c_->Prop}{s:c_}{l:g_}{xs:Array b_}{Q:b_->c_->Prop},k.sq s.heap l xs →
  Q (.ref s.heap.objs.size) { s with heap:=s.heap.push { cls:=.type k.nm,data:=.fields #[.ref l,.int 0 0] } }->m_ (l_ prog w) A (V7 (.ref l)) Q E s
 new:∀{h:K_}{l:g_},k.it (h.push { cls:=.type k.nm,data:=.fields #[.ref l,.int 0 0] }) h.objs.size l 0
 item:∀{prog:u_}{w:C_}{A:Rh}{E:b_->c_->Prop}{s:c_}{i l:g_}{n:Nat}{xs:Array b_}{x:b_}{Q:b_->c_->Prop},k.it s.heap i l n->k.sq s.heap l xs->xs[n]?=some x →
  (∀h',k.it h' i l (n+1)->K_.SameBut i s.heap h'->Q x { s with heap:=h' })->m_ (l_ prog w) A (WY (.ref i)) Q E s
 stop:∀{prog:u_}{w:C_}{A:Rh}{E:b_->c_->Prop}{s:c_}{i l:g_}{n:Nat}{xs:Array b_}{Q:b_->c_->Prop},A.handled=none->k.it s.heap i l n->k.sq s.heap l xs->xs[n]?=none →
  (∀h' e,K_.ExtBut i s.heap h'->(∃o,h'.get? e=some o/\o.cls=.type "StopIteration")->E (.ref e) { s with heap:=h' })->m_ (l_ prog w) A (WY (.ref i)) Q E s
noncomputable def kdL:Kd:=⟨λh i l n=>h.IsListIter i l n,λh l xs=>h.IsList l xs, "list_iterator"⟩
noncomputable def kdT:Kd:=⟨λh i l n=>h.IsTupleIter i l n,λh l xs=>h.IsTuple l xs, "tuple_iterator"⟩
theorem Gn:KdOk kdL where
 itAt:=λh k=>h.at k
 sqAt:=λh k=>h.at k
 itLt:=λh=>by obtain⟨_,e,_⟩:=h;exact w_ e
 sqLt:=λh=>by obtain⟨_,e,_⟩:=h;exact w_ e
 itObj:=λh=>by obtain⟨o,e,_,d⟩:=h;exact⟨o,e,λv z=>by rw[d] at z;cases z⟩
 iter:=λh q=>RA h q
 new:=⟨_,r_ _ rfl,rfl,rfl⟩
 item:=λh1 h2 h3 q=>wpAny_nextOf_list_item h1 h2 h3 q
 stop:=λhh h1 h2 h3 q=>wpAny_nextOf_list_end hh h1 h2 h3 q
section
variable{prog:u_}{w:C_}{E:b_->c_->Prop}{s:c_}
theorem LL{α:Type}{Q:α->c_->Prop}(hh:A.handled=none)(k:∀(g:K_) (x:g_),(∀b o,s.heap.get? b=some o->g.get? b=some o)->(∃o,g.get? x=some o/\o.cls=.type "StopIteration")->E (.ref x) { s with heap:=g }):
  m_ (l_ prog w) A (stopIteration (α:=α)) Q E s:=by
 unfold stopIteration newExc newTuple;refine a_ (a_ (M_ (a_ (RN (a:=b_.none) (by first | rfl | (simp only[VD];rfl)) (M_ ?_ (by size_fits)))) (by size_fits)));unfold raiseNew;refine a_ (wpAny_handled ?_);rw[hh];exact a_ (d_ (wpAny_throw (k _ _ (λb o e=>e_ _ (e_ _ e)) ⟨_,r_ _ rfl,rfl⟩)))
theorem FP{bj tp:g_}{i:Nat}{Q:b_->c_->Prop}(hi:s.heap.IsTupleIter bj tp i)(hT:s.heap.IsTuple tp cells)(one:∀v,cells[i]?=some v->∀g:K_,g.IsTupleIter bj tp (i+1)->K_.SameBut bj s.heap g->Q v { s with heap:=g })(non:cells[i]?=none->A.handled=none/\∀(g:K_) (x:g_),K_.ExtBut bj s.heap g->(∃o,g.get? x=some o/\o.cls=.type "StopIteration")->E (.ref x) { s with heap:=g }):
  m_ (l_ prog w) A (WY (.ref bj)) Q E s:=by
 have ty:=hi.typeIs;obtain⟨oi,gi,ci,di⟩:=hi;obtain⟨ot,gt,ct,nt,dt⟩:=hT;unfold WY;refine a_ (Rr (name:=Sc "__next__") ty Uv (Rv Uv ty F.entry_tuple_iterator_next ?_ (F.args_tuple_iterator_next_1 _)));refine a_ (RN (a:=(b_.ref bj,[])) rfl ?_);refine a_ (Rt (i:=0) gi di (x:=.ref tp) rfl (wpAny_ite_split (λno=>absurd no i_) λ_=>?_));refine a_ (Rt (i:=1) gi di (x:=.int i 0) rfl (a_ (Q5 gt dt ?_)));dsimp only;rw[Ti];cases hv:cells[i]? with
 | some v =>
  refine a_ (Se gi di (by simp) (d_ ⟨v,rfl,d_ (one v hv _ ?_ (K_.SameBut.update ..))⟩));have low:=SJ di;exact⟨_,O_ _ gi (Sz (low _)),(UE ..).trans ci,by rw[low];simp[R9]⟩
 | none =>
  obtain⟨hh,k⟩:=non hv;refine a_ (Uw (a_ (Se gi di (by simp) (LL hh λg x keep is=>k g x (λb o ne e=>keep b o ((K_.SameBut.update ..).extBut b o ne e)) is))))
end
theorem Fq:KdOk kdT where
 itAt:=λh k=>by obtain⟨o,e,r⟩:=h;exact⟨o,k o e,r⟩
 sqAt:=λh k=>by obtain⟨o,e,r⟩:=h;exact⟨o,k o e,r⟩
 itLt:=λh=>by obtain⟨_,e,_⟩:=h;exact w_ e
 sqLt:=λh=>by obtain⟨_,e,_⟩:=h;exact w_ e
 itObj:=λh=>by obtain⟨o,e,_,d⟩:=h;exact⟨o,e,λv z=>by rw[d] at z;cases z⟩
 iter:=λh q=>V_ h q
 new:=⟨_,r_ _ rfl,rfl,rfl⟩
 item:=λh1 h2 h3 q=>FP h1 h2 (λv e g=>by rw[h3] at e;cases e;exact q g) λe=>by rw[h3] at e;cases e
 stop:=λhh h1 h2 h3 q=>FP h1 h2 (λv e=>by rw[h3] at e;cases e) λ_=>⟨hh,q⟩
theorem Df{H:Hp}{s:c_}(I:Inv X aa U H s)(bf:∀b∈ch,FpOk X aa H b)(k:∀b u,b∉ch->s.heap.get? b=some u->h'.get? b=some u)(hT:s.heap.objs.size<=T)(new:ObjOk X.prog X.w (upd H T o) h' T o):Inv X aa U (upd H T o) { s with heap:=h',toks:=t' }:=by
 have hf:=I.hok.fresh hT;have ne:∀{b u},H b=some u->b≠T:=λ{b u} e=>vM e hf
 have cL:∀{b u},H b=some u->b∉ch:=λ{b u} e z=>by have:=(bf b z).1;rw[e] at this;cases this
 refine I.step (g':=s.gens) (d':=s.drawn) (ch:=ch) (λb hb=>⟨(bf b hb).2.2.2.1,(bf b hb).2.1,(bf b hb).2.2.2.2.1,(bf b hb).2.2.2.2.2⟩) (λb u _ _ hc e _=>k b u hc e) (λb u _ _ hc e _=>⟨u.slots,k b u hc e⟩) (λb u hc e n=>?_)
  (λb u hc e=>⟨u,k b u hc e⟩) (λb xs e=>by rw[uS (ne e)];exact e) (λb u v e=>by rw[uS (ne e)];exact e) (λb q e=>by rw[uS (ne e)];exact e) (λm hm=>?_) (λb u e=>?_) I.bare
 ·have nb:b≠T:=λz=>by have:=w_ e;rw[z] at this;exact absurd (G_ this hT) (RZ _)
  rw[uS nb];exact n
 ·obtain⟨ob,es,ep,ho,r⟩:=hm;exact⟨ob,es,ep,k _ ob (λz=>(bf _ z).2.1 rfl) ho,r⟩
 ·by_cases hb:b=T
  ·subst hb;rw[u3] at e;cases e;exact new
  ·rw[uS hb] at e;refine(I.hok b u e).stay (λc v hc q=>k c v ?_ q) (λc q=>by rw[uS (ne q)];exact q) (λc xs q=>by rw[uS (ne q)];exact q) λc o u q=>by rw[uS (ne q)];exact q
   rcases hc with z | z
   ·rw[z];exact cL e
   ·exact cL z
theorem xL{H:Hp}{s:c_}(I:Inv X aa U H s)(bf:∀b∈ch,FpOk X aa H b)(k:∀b u,b∉ch->s.heap.get? b=some u->h'.get? b=some u):Inv X aa U H { s with heap:=h',toks:=t' }:=by
 have cL:∀{b u},H b=some u->b∉ch:=λ{b u} e z=>by have:=(bf b z).1;rw[e] at this;cases this
 refine I.step (g':=s.gens) (d':=s.drawn) (ch:=ch) (λb hb=>⟨(bf b hb).2.2.2.1,(bf b hb).2.1,(bf b hb).2.2.2.2.1,(bf b hb).2.2.2.2.2⟩) (λb u _ _ hc e _=>k b u hc e) (λb u _ _ hc e _=>⟨u.slots,k b u hc e⟩) (λb u hc e n=>n)
  (λb u hc e=>⟨u,k b u hc e⟩) (λb xs e=>e) (λb u v e=>e) (λ_ _ e=>e) (λm hm=>?_) (λb u e=>?_) I.bare
 ·obtain⟨ob,es,ep,ho,r⟩:=hm;exact⟨ob,es,ep,k _ ob (λz=>(bf _ z).2.1 rfl) ho,r⟩
 ·refine(I.hok b u e).stay (λc v hc q=>k c v ?_ q) (λc q=>q) (λc xs q=>q) λc o u q=>q
  rcases hc with z | z
  ·rw[z];exact cL e
  ·exact cL z
section
variable{prog:u_}{w:C_}{E:b_->c_->Prop}{s:c_}{k:Kd}
theorem FO(ok:KdOk k){z ta bV p q u v:g_}{xs ys:Array b_}{c0 c1:b_}{Q:PySem.Fin->c_->Prop}(D:ZipApart z ta bV p q u v)(Z:V4 s.heap z ta bV .none)(Ta:S5 s.heap ta (.ref p) (.ref q))(To:S5 s.heap bV c0 c1)(P:k.it s.heap p u m)(P':k.it s.heap q v n)(uL:k.sq s.heap u xs)(U':k.sq s.heap v ys)(gD:∀x y,xs[m]?=some x->ys[n]?=some y->∀g:K_,g.objs.size=s.heap.objs.size+1/\S5 g s.heap.objs.size x y->V4 g z ta bV (R9 s.heap.objs.size)->S5 g bV x y->k.it g p u (m+1)/\k.it g q v (n+1) →
   (∀c o,(c≠z/\c≠bV/\c≠p/\c≠q)->s.heap.get? c=some o->g.get? c=some o)->Q (.done (.ret (.ref s.heap.objs.size))) { s with heap:=g })(gone:(xs[m]?=none\/ys[n]?=none)->A.handled=none/\∀(g:K_) (x:g_),(∀c o,(c≠z/\c≠bV/\c≠p/\c≠q)->s.heap.get? c=some o->g.get? c=some o)->(∃o,g.get? x=some o/\o.cls=.type "StopIteration")->E (.ref x) { s with heap:=g }):
  m_ (l_ prog w) A (RV.«zip.__next__» ⟨[.ref z],[]⟩) Q E s:=by
 refine a_ (RN (a:=(b_.ref z,[])) rfl (a_ (Rt (i:=2) Z rfl (x:=.bool false) rfl (a_ (Rt (i:=3) Z rfl (x:=.ref ta) rfl (a_ (Q5 Ta rfl ?_)))))));refine a_ (m:=RV.SmallTypes.ownedTupleIsFree (.ref z)) (a_ (Rt (i:=0) Z rfl (x:=.none) rfl (d_ ?_)));rw[if_pos rfl];refine a_ (Uw (a_ (Rt (i:=4) Z rfl (x:=.ref bV) rfl (a_ (S6 Z (by simp) λg1 Z1 b1=>?_)))));replace Z1:V4 g1 z ta bV .ellipsis:=Z1
 have lU:∀(g:K_) (x:g_),V4 g z ta bV .ellipsis->(∃o,g.get? x=some o/\o.cls=.type "StopIteration")->(∀g':K_,K_.SameBut z g g'->(∃o,g'.get? x=some o/\o.cls=.type "StopIteration")->E (.ref x) { s with heap:=g' }) →
   m_ (l_ prog w) A (setField (.ref z) 0 .none) (λ_ s'=>E (.ref x) s') E { s with heap:=g }:=λg x Zg is kk=>by
  obtain⟨o,e1,e2⟩:=is;refine S6 Zg (by simp) λg' _ b'=>kk g' b' ⟨o,b'.extBut _ _ (λsame=>?_) e1,e2⟩
  rw[same,Zg] at e1;cases e1;simp at e2
 have f1:∀c o,c≠z->s.heap.get? c=some o->g1.get? c=some o:=λc o ne e=>b1.extBut _ _ ne e
 refine a_ ?_;rw[List.zipIdx_cons,List.zipIdx_cons,List.zipIdx_nil,S4];refine a_ (a_ (wpAny_onRaise (a_ (m:=WY (.ref p)) ?_)));have P1:=ok.itAt P λo e=>f1 _ o D.i1z e
 have U1:=ok.sqAt uL λo e=>f1 _ o D.l1z e
 cases hx:xs[m]? with
 | none =>
  obtain⟨hh,out⟩:=gone (.inl hx);exact ok.stop hh P1 U1 hx λg2 x b2 is=>lU g2 x (b2 _ _ D.i1z.symm Z1) is λg' b' fP=>out g' x (λc o ne e=>b'.extBut _ _ ne.1 (b2 _ _ ne.2.2.1 (f1 c o ne.1 e))) fP
 | some x =>
  refine ok.item P1 U1 hx λg2 P2 b2=>d_ ?_
  have og:S5 g2 bV c0 c1:=b2.extBut _ _ D.TOi1 (f1 _ _ D.TOz To);refine a_ (Q5 og rfl (a_ (VE og λg3 lV b3=>a_ (Rk (d_ ?_)))));replace lV:S5 g3 bV x c1:=lV;have f3:∀c o,c≠bV->c≠p->g1.get? c=some o->g3.get? c=some o:=λc o n1 n2 e=>b3.extBut _ _ n1 (b2.extBut _ _ n2 e)
  have Z3:V4 g3 z ta bV .ellipsis:=f3 _ _ D.TOz.symm D.i1z.symm Z1;dsimp only;rw[S4];refine a_ (a_ (wpAny_onRaise (a_ (m:=WY (.ref q)) ?_)));have Q3:=ok.itAt P' λo e=>f3 _ o D.TOi2.symm D.i12.symm (f1 _ o D.i2z e)
  have V3:=ok.sqAt U' λo e=>f3 _ o D.l2TO D.l2i1 (f1 _ o D.l2z e)
  cases hy:ys[n]? with
  | none =>
   obtain⟨hh,out⟩:=gone (.inr hy);exact ok.stop hh Q3 V3 hy λg4 x b4 is=>lU g4 x (b4 _ _ D.i2z.symm Z3) is λg' b' fP=>out g' x (λc o ne e=>b'.extBut _ _ ne.1 (b4 _ _ ne.2.2.2 (f3 c o ne.2.1 ne.2.2.1 (f1 c o ne.1 e)))) fP
  | some y =>
   refine ok.item Q3 V3 hy λg4 Q4 b4=>d_ ?_
   have oh:S5 g4 bV x c1:=b4.extBut _ _ D.TOi2 lV;refine a_ (Q5 oh rfl (a_ (VE oh λg5 jL b5=>a_ (Rk (d_ ?_)))));replace jL:S5 g5 bV x y:=jL;have f5:∀c o,c≠bV->c≠q->g3.get? c=some o->g5.get? c=some o:=λc o n1 n2 e=>b5.extBut _ _ n1 (b4.extBut _ _ n2 e)
   dsimp only;rw[Uq];refine d_ (a_ (Q5 jL rfl (a_ (wpAny_newTuple ?_))));have same:g5.objs.size=s.heap.objs.size:=b5.1.trans (b4.1.trans (b3.1.trans (b2.1.trans b1.1)));have Z5:V4 g5 z ta bV .ellipsis:=f5 _ _ D.TOz.symm D.i2z.symm Z3;have fk:g5.objs.size≠z:=Tg (w_ Z5);have Z6:V4 (g5.push { cls:=.type "tuple", data:=.seq #[x,y] }) z ta bV .ellipsis:=e_ _ Z5;refine a_ (m:=RV.SmallTypes.ownedTupleHandOut (.ref z) (.ref g5.objs.size)) (a_ (S6 Z6 (by simp) λg7 Z7 b7=>?_));refine S6 Z7 (by simp) λg8 Z8 b8=>d_ ?_
   replace Z8:V4 g8 z ta bV (R9 g5.objs.size):=Z8;have f8:∀c o,c≠z->g5.get? c=some o->g8.get? c=some o:=λc o ne e=>b8.extBut _ _ ne (b7.extBut _ _ ne (e_ _ e))
   have T8:S5 g8 g5.objs.size x y:=b8.extBut _ _ fk (b7.extBut _ _ fk (r_ _ rfl));have iI:g8.objs.size=g5.objs.size+1:=b8.1.trans (b7.1.trans (RT ..));show Q (.done (.ret (.ref g5.objs.size))) { s with heap:=g8 };rw[same] at Z8 T8 iI ⊢
   exact gD x y hx hy g8 ⟨iI,T8⟩ Z8 (f8 _ _ D.TOz jL) ⟨ok.itAt P2 λo e=>f8 _ o D.i1z (f5 _ o D.TOi1.symm D.i12 (b3.extBut _ _ D.TOi1.symm e)),ok.itAt Q4 λo e=>f8 _ o D.i2z (b5.extBut _ _ D.TOi2.symm e)⟩
    λc o ne e=>f8 c o ne.1 (f5 c o ne.2.1 ne.2.2.2 (f3 c o ne.2.1 ne.2.2.1 (f1 c o ne.1 e)))
noncomputable abbrev zk1(k:Kd)(h:K_)(l1:g_):K_:=h.push { cls:=.type k.nm,data:=.fields #[.ref l1,.int 0 0] }
noncomputable abbrev zk2(k:Kd)(h:K_)(l1 l2:g_):K_:=(zk1 k h l1).push { cls:=.type k.nm,data:=.fields #[.ref l2,.int 0 0] }
noncomputable abbrev zk3(k:Kd)(h:K_)(l1 l2:g_):K_:=(zk2 k h l1 l2).push { cls:=.type "tuple", data:=.seq #[.ref h.objs.size,.ref (zk1 k h l1).objs.size] }
noncomputable abbrev zk4(k:Kd)(h:K_)(l1 l2:g_):K_:=(zk3 k h l1 l2).push { cls:=.type "tuple", data:=.seq #[.none,.none] }
noncomputable abbrev zk5(k:Kd)(h:K_)(l1 l2:g_):K_:=(zk4 k h l1 l2).push { cls:=.type "zip", data:=.fields #[.none,.bool false,.bool false,.ref (zk2 k h l1 l2).objs.size,.ref (zk3 k h l1 l2).objs.size] }
theorem Jm(ok:KdOk k)(l1 l2:g_)(xs ys:Array b_):
  Meets (RV.«zip.__new__» ⟨[.type "zip", .ref l1,.ref l2],[]⟩) (λ_ R s=>k.sq s.heap l1 xs/\k.sq s.heap l2 ys ∧
   ∀h',V4 h' (s.heap.objs.size+4) (s.heap.objs.size+2) (s.heap.objs.size+3) .none->S5 h' (s.heap.objs.size+2) (.ref s.heap.objs.size) (.ref (s.heap.objs.size+1)) →
    S5 h' (s.heap.objs.size+3) .none .none->k.it h' s.heap.objs.size l1 0->k.it h' (s.heap.objs.size+1) l2 0->(∀c o,s.heap.get? c=some o->h'.get? c=some o)->R (.ok (.ret (.ref (s.heap.objs.size+4)))) { s with heap:=h' }):=
 .of_wp λprog w A R s h=>by
  obtain⟨hp,gn,dw,tk,os⟩:=s;obtain⟨dN,eD,h⟩:=h;have iJ:=sub_zip;have qM:k.sq (c_.heap ⟨hp,gn,dw,tk,os⟩) l1 xs:=dN;have qN:k.sq (c_.heap ⟨zk1 k hp l1,gn,dw,tk,os⟩) l2 ys:=ok.sqAt eD λo e=>e_ _ e
  wp_walk using ok.iter qM,ok.iter qN
  refine⟨_,rfl,?_⟩;have z1:(zk1 k hp l1).objs.size=hp.objs.size+1:=RT ..;have z2:(zk2 k hp l1 l2).objs.size=hp.objs.size+2:=by rw[RT,z1]
  have z3:(zk3 k hp l1 l2).objs.size=hp.objs.size+3:=by rw[RT,z2]
  have z4:(zk4 k hp l1 l2).objs.size=hp.objs.size+4:=by rw[RT,z3]
  have g5:(zk5 k hp l1 l2).get? (zk4 k hp l1 l2).objs.size=some { cls:=.type "zip", data:=.fields #[.none,.bool false,.bool false,.ref (zk2 k hp l1 l2).objs.size,.ref (zk3 k hp l1 l2).objs.size] }:=r_ _ rfl;have g4:(zk5 k hp l1 l2).get? (zk3 k hp l1 l2).objs.size=some { cls:=.type "tuple", data:=.seq #[.none,.none] }:=e_ _ (r_ _ rfl);have g3:(zk5 k hp l1 l2).get? (zk2 k hp l1 l2).objs.size=some { cls:=.type "tuple", data:=.seq #[.ref hp.objs.size,.ref (zk1 k hp l1).objs.size] }:=e_ _ (e_ _ (r_ _ rfl));have n2:k.it (zk2 k hp l1 l2) (zk1 k hp l1).objs.size l2 0:=ok.new;have n1:k.it (zk1 k hp l1) hp.objs.size l1 0:=ok.new;have i2:k.it (zk5 k hp l1 l2) (zk1 k hp l1).objs.size l2 0:=ok.itAt n2 λo e=>e_ _ (e_ _ (e_ _ e))
  have i1:k.it (zk5 k hp l1 l2) hp.objs.size l1 0:=ok.itAt n1 λo e=>e_ _ (e_ _ (e_ _ (e_ _ e)))
  show R (.ok (.ret (.ref (zk4 k hp l1 l2).objs.size))) { heap:=zk5 k hp l1 l2,gens:=gn,drawn:=dw,toks:=tk,os:=os };rw[z2,z3,z4] at g5;rw[z1,z2] at g3;rw[z3] at g4;rw[z1] at i2;rw[z4];exact h (zk5 k hp l1 l2) g5 g3 g4 i1 i2 λc o e=>e_ _ (e_ _ (e_ _ (e_ _ (e_ _ e))))
theorem JR(ok:KdOk k){xs ys:Array b_}{Q:b_->c_->Prop}(dN:k.sq s.heap l1 xs)(eD:k.sq s.heap l2 ys)(made:∀n h',n=s.heap.objs.size->V4 h' (n+4) (n+2) (n+3) .none->S5 h' (n+2) (.ref n) (.ref (n+1))->S5 h' (n+3) .none .none->k.it h' n l1 0->k.it h' (n+1) l2 0->(∀c o,s.heap.get? c=some o->h'.get? c=some o)->Q (.ref (n+4)) { s with heap:=h' }):
  m_ (l_ prog w) A (call (b_.type "zip") ([l1,l2].map b_.ref)) Q E s:=
 callType_new F.called_zip (by decide) (F.typeCall_zip_2 _ _) (F.newCall_zip_2 _ _) (λobj=>F.args_object_init_3 obj _ _) F.entry_zip_new (Jm ok l1 l2 xs ys) ⟨dN,eD,λh' b1 b2 b3 b4 b5 b6=>⟨⟨_,b1,rfl⟩,made _ h' rfl b1 b2 b3 b4 b5 b6⟩⟩
end
section
variable{k:Kd}
noncomputable def Itz(rd:Hp->g_->List V->Prop)(l1 l2:g_):It:=
 ⟨λi H=>∃xs ys x y,rd H l1 xs/\rd H l2 ys/\xs[i]?=some x/\ys[i]?=some y,
  λi H v H'=>∃p x y,H p=none/\v=.ref p/\H'=upd H p (.tup [x,y])/\(∀xs,rd H l1 xs->xs[i]?=some x)/\(∀ys,rd H l2 ys->ys[i]?=some y),
  λi H=>∃xs ys,rd H l1 xs/\rd H l2 ys/\(xs.length<=i\/ys.length<=i)⟩
structure KdRd(K:PySem.W.Frag)(k:Kd)(rd:Hp->g_->List V->Prop):Prop where
 of:∀{X:Cx}{aa:List (g_×Obj)}{U:L2.St}{H:Hp}{s:c_}{a:g_}{xs:List V},X.K=K->Inv X aa U H s->rd H a xs->∃ac:List b_,Vals xs ac/\k.sq s.heap a ac.toArray
 inj:∀{X:Cx}{aa:List (g_×Obj)}{U:L2.St}{H:Hp}{s:c_}{a:g_}{xs ys:List V},X.K=K->Inv X aa U H s->rd H a xs->rd H a ys->xs=ys
theorem Ed(K:PySem.W.Frag):KdRd K kdL (λH a xs=>SqL K H a xs) where
 of:=λe I h=>by subst e;obtain⟨ac,r,t,_⟩:=I.list h;exact⟨ac,r,t.isList⟩
 inj:=λe I h h'=>by subst e;exact I.list_inj h h'
theorem CU(K:PySem.W.Frag):KdRd K kdT (λH a xs=>SqT K H a xs) where
 of:=λe I h=>by subst e;obtain⟨ac,r,t,_⟩:=I.tuple h;exact⟨ac,r,t⟩
 inj:=λe I h h'=>by subst e;exact I.tuple_inj h h'
theorem HH{P:u_}{w:C_}{K:PySem.W.Frag}{x1:Nat}{rd:Hp->g_->List V->Prop}(ok:KdOk k)(kr:KdRd K k rd){z TI TO i1 i2:g_}(D:ZipApart z TI TO i1 i2 l1 l2):
  Turn P w K (.Tuple bK x1 tp) (Itz rd l1 l2) [z,TI,TO,i1,i2] z (λi h=>V4 h z TI TO .none/\S5 h TI (.ref i1) (.ref i2)/\(∃a b,S5 h TO a b)/\k.it h i1 l1 i/\k.it h i2 l2 i) where
 mem:=by simp
 obj:=λi h st b hb=>by
  obtain⟨a1,a2,⟨x,y,a3⟩,a4,a5⟩:=st;rw[A_,A_,A_,A_,q_] at hb
  rcases hb with rfl | rfl | rfl | rfl | rfl
  ·exact⟨_,a1,λv q=>by cases(show fields _=VR v from q)⟩
  ·exact⟨_,a2,λv q=>by cases(show seq _ _=VR v from q)⟩
  ·exact⟨_,a3,λv q=>by cases(show seq _ _=VR v from q)⟩
  ·exact ok.itObj a4
  ·exact ok.itObj a5
 keep:=λi h h' st kk=>by
  obtain⟨a1,a2,⟨x,y,a3⟩,a4,a5⟩:=st;exact⟨kk _ (by simp) _ a1,kk _ (by simp) _ a2,⟨x,y,kk _ (by simp) _ a3⟩,ok.itAt a4 λo e=>kk _ (by simp) o e,ok.itAt a5 λo e=>kk _ (by simp) o e⟩
 item:=by
  intro X hP hw hK hc i aa s U H E I hf st hg;subst hP hw;obtain⟨a1,a2,⟨av,bv,a3⟩,a4,a5⟩:=st;obtain⟨xs,ys,x,y,g1,g2,g3,g4⟩:=hg;obtain⟨ac,r1,t1⟩:=kr.of hK I g1;obtain⟨bF,r2,t2⟩:=kr.of hK I g2;obtain⟨u1,e1,e2⟩:=r1.get g3;obtain⟨u2,e3,e4⟩:=r2.get g4;have hT:s.TypeIs (.ref z) "zip":=⟨_,a1,rfl⟩;unfold Sm;refine a_ (SW (Rr (name:=Sc "__next__") hT T_ (Rv T_ hT F.entry_zip_next (FO ok D a1 a2 a3 a4 a5 t1 t2 ?_ ?_) (Wl _))))
  case refine_2 =>
   intro non;have f1:ac.toArray[i]?=some u1:=by simpa using e1
   have f2:bF.toArray[i]?=some u2:=by simpa using e3
   rw[f1,f2] at non
   rcases non with non | non<;>cases non
  intro y1 y2 k1 k2 h' ⟨_,b5⟩ b1 b2 ⟨b3,b4⟩ b7;have f1:ac.toArray[i]?=some u1:=by simpa using e1
  have f2:bF.toArray[i]?=some u2:=by simpa using e3
  rw[f1] at k1;cases k1;rw[f2] at k2;cases k2;refine⟨_,rfl,d_ ⟨.ref s.heap.objs.size,rfl,wpAny_letOwnedTupleGo_zip b1 λh2 c1 c2=>?_⟩⟩;have lt:∀{b o},s.heap.get? b=some o->b≠s.heap.objs.size:=λ{b o} e=>H_ (w_ e)
  have iK:=lt a1;have oj:=lt a2;have om:=lt a3
  have kk:∀b u,b∉[z,TI,TO,i1,i2]->s.heap.get? b=some u->h2.get? b=some u:=λb u hb e=>by
   simp only[A_,S_,or_false,not_or] at hb;exact c2.extBut _ _ hb.1 (b7 b u ⟨hb.1,hb.2.2.1,hb.2.2.2.1,hb.2.2.2.2⟩ e)
  have pT:S5 h2 s.heap.objs.size u1 u2:=c2.extBut _ _ (QW iK) b5;have I1:Inv X aa U (upd H s.heap.objs.size (.tup [x,y])) { s with heap:=h2 }:=Df (t':=s.toks) I hf kk (x_ _) ⟨by show 2<=D_;rw[Rz];decide,[u1,u2],.cons e2 (.cons e4 .nil),⟨_,pT,rfl,_,rfl⟩⟩;have fr:=I.hok.fresh (x_ s.heap.objs.size);refine⟨.ref s.heap.objs.size,_,I1,rfl,⟨s.heap.objs.size,x,y,fr,rfl,rfl,λzs hz=>by rw[kr.inj hK I hz g1];exact g3,λzs hz=>by rw[kr.inj hK I hz g2];exact g4⟩,⟨c1,c2.extBut _ _ D.TIz (b7 _ _ ⟨D.TIz,D.TITO,D.TIi1,D.TIi2⟩ a2),⟨u1,u2,c2.extBut _ _ D.TOz b2⟩,ok.itAt b3 λo e=>c2.extBut _ _ D.i1z e,ok.itAt b4 λo e=>c2.extBut _ _ D.i2z e⟩,λb hb=>?_⟩;have lW:=(hf b hb).1
  have nb:b≠s.heap.objs.size:=by
   rw[A_,A_,A_,A_,q_] at hb
   rcases hb with rfl | rfl | rfl | rfl | rfl
   ·exact iK
   ·exact oj
   ·exact om
   ·exact H_ (ok.itLt a4)
   ·exact H_ (ok.itLt a5)
  rw[uS nb];exact lW
 done:=by
  intro X hP hw hK hc i aa s U H E I hf st hg;subst hP hw;obtain⟨a1,a2,⟨av,bv,a3⟩,a4,a5⟩:=st;obtain⟨xs,ys,g1,g2,g3⟩:=hg;obtain⟨ac,r1,t1⟩:=kr.of hK I g1;obtain⟨bF,r2,t2⟩:=kr.of hK I g2;have dN:=r1.length;have eD:=r2.length;have hT:s.TypeIs (.ref z) "zip":=⟨_,a1,rfl⟩;unfold Sm;refine a_ (SW (Rr (name:=Sc "__next__") hT T_ (Rv T_ hT F.entry_zip_next (FO ok D a1 a2 a3 a4 a5 t1 t2 ?_ λ_=>⟨I.ok.hd hc,λh' e hk he=>?_⟩) (Wl _))))
  ·intro y1 y2 k1 k2;have m1:=(E_.mp k1).1;have m2:=(E_.mp k2).1;simp at m1 m2;omega
  ·obtain⟨o,ho,lX⟩:=he;refine a_ (SN (T:= "StopIteration") (b:=true) ⟨o,ho,lX⟩ VF ?_);refine d_ ⟨rfl,xL (t':=s.toks) I hf λb u hb e=>?_⟩;simp only[A_,S_,or_false,not_or] at hb;exact hk b u ⟨hb.1,hb.2.2.1,hb.2.2.2.1,hb.2.2.2.2⟩ e
 self:=λ_ _ _ _ _ st h=>wpAny_pyIter_zip st.1 h
end
section
variable{B:BB}{a b c:L_}{es:List L_}{gb gc:M D}
noncomputable def iZip(K:PySem.W.Frag)(ta:TA):TI:=λU H R=>ta U H λvs H1=>(∃l1 l2 xs ys,vs=[.ref l1,.ref l2]/\SqL K H1 l1 xs/\SqL K H1 l2 ys/\R (Itz (λH a xs=>SqL K H a xs) l1 l2) H1)\/(∃l1 l2 xs ys,vs=[.ref l1,.ref l2]/\SqT K H1 l1 xs/\SqT K H1 l2 ys/\R (Itz (λH a xs=>SqT K H a xs) l1 l2) H1)
theorem EZ{k:Kd}{rd:Hp->g_->List V->Prop}(ok:KdOk k)(kr:KdRd X.K k rd){x1:Nat}{H:Hp}{s:c_}{R:It->Hp->Prop}{ys:List V}(I:Inv X aa U H s)(h1:rd H l1 xs)(h2:rd H l2 ys)(q:R (Itz rd l1 l2) H):
  m_ (l_ X.prog X.w) X.A (call (.type "zip") [.ref l1,.ref l2]) (λv s1=>m_ (l_ X.prog X.w) X.A (V7 v) (PIE X aa U (.Tuple bK x1 tp) R) X.xe s1) X.xe s:=by
 obtain⟨ac,r1,t1⟩:=kr.of rfl I h1;obtain⟨bF,r2,t2⟩:=kr.of rfl I h2;refine JR ok t1 t2 λn h' hn a1 a2 a3 a4 a5 a6=>wpAny_pyIter_zip a1 ?_
 subst hn;have I1:Inv X aa U H { s with heap:=h' }:=I.kept (t':=s.toks) a6;refine⟨s.heap.objs.size+4,[s.heap.objs.size+4,s.heap.objs.size+2,s.heap.objs.size+3,s.heap.objs.size,s.heap.objs.size+1],_,_,H,rfl,I1,HH ok kr (zipApart_new (ok.sqLt t1) (ok.sqLt t2)),⟨a1,a2,⟨_,_,a3⟩,a4,a5⟩,λb hb=>?_,q⟩;rw[A_,A_,A_,A_,q_] at hb;have up:∀n,FpOk X aa H (s.heap.objs.size+n):=λn=>I.fpOk (R8 _ _) (I.hok.fresh (R8 _ _))
 rcases hb with rfl | rfl | rfl | rfl | rfl
 ·exact up 4
 ·exact up 2
 ·exact up 3
 ·exact up 0
 ·exact up 1
theorem Lq{x1:Nat}{p:Pos}(hg:Gl X "zip")(hm:X.mg "zip"=none)(ha:PA X [a,b] ta)(hs:f_ [a,b] X.env=[(false,eval a X.env),(false,eval b X.env)]:=by rfl)(eK:f_ [b] X.env=[(false,eval b X.env)]:=by rfl):
  PI X (.Tuple bK x1 tp) (.Call (.Name "zip" p) [a,b] [] pos) (iZip X.K ta):=by
 intro aa s U H R I h;refine Call_ (v3 I hg hm boot_zip (Rb (thn (ha pos aa s U H _ I h) λus s1 ⟨vs,H1,I1,r1,q1⟩=>?_) (by rw[hs,eK]) (by rw[eK];rfl)))
 rcases q1 with⟨l1,l2,xs,ys,e,h1,h2,q⟩ | ⟨l1,l2,xs,ys,e,h1,h2,q⟩
 ·subst e;obtain⟨u1,u2,rfl,e1,e2⟩:=r1.two;cases e1;cases e2;exact EZ Gn (Ed _) I1 h1 h2 q
 ·subst e;obtain⟨u1,u2,rfl,e1,e2⟩:=r1.two;cases e1;cases e2;exact EZ Fq (CU _) I1 h1 h2 q
noncomputable def pairsD(xs ys:List D):List D:=(xs.zip ys).map λp=>.tup [p.1,p.2]
noncomputable def zipI(ds:List D):Option (List D):=match ds with
 | [.lst xs,.lst ys]=>some (pairsD xs ys)
 | [.tup xs,.tup ys]=>some (pairsD xs ys)
 | _=>none
theorem Dh{K:PySem.W.Frag}{rd:Hp->g_->List V->Prop}{ys:List V}{es:List D}(mono:∀{H a xs},Same I H->rd I a xs->rd H a xs)(inj:∀{H},Same I H->(∀zs,rd H l1 zs->zs=xs)/\(∀zs,rd H l2 zs->zs=ys)\/True)(h1:rd I l1 xs)(h2:rd I l2 ys)(i1:IsA K I ds xs)(i2:IsA K I es ys):Yields K I (pairsD ds es) (Itz rd l1 l2):=λi H s=>by
 have L1:=i1.length;have L2:=i2.length;refine⟨λd hd=>?_,λhi=>⟨xs,ys,mono s h1,mono s h2,?_⟩⟩
 ·unfold pairsD at hd;obtain⟨q,e1,rfl⟩:=getMap hd;obtain⟨e2,e3⟩:=SQ.mp e1;obtain⟨x,f1,f2⟩:=i1.get e2;obtain⟨y,f3,f4⟩:=i2.get e3;refine⟨⟨xs,ys,x,y,mono s h1,mono s h2,f1,f3⟩,λv H2 hy=>?_⟩;obtain⟨p,x',y',g1,g2,g3,g4,g5⟩:=hy;have k1:=g4 xs (mono s h1);have k2:=g5 ys (mono s h2);rw[f1] at k1;cases k1;rw[f3] at k2;cases k2;exact .inr ⟨p,[q.1,q.2],[x,y],rfl,g2,g1,g3,IsA.cons f2 (IsA.cons f4 IsA.nil)⟩
 ·unfold pairsD at hi;rw[p_,WZ] at hi;omega
theorem yS{x1:Nat}{p:Pos}{t:M (List D)}(hg:Gl X "zip")(hm:X.mg "zip"=none)(ha:AD X B [a,b] t)(hs:f_ [a,b] X.env=[(false,eval a X.env),(false,eval b X.env)]:=by rfl)(eK:f_ [b] X.env=[(false,eval b X.env)]:=by rfl):
  ITD X B (.Tuple bK x1 tp) (.Call (.Name "zip" p) [a,b] [] pos) (fn1 zipI t):=PI.imp (Lq hg hm ha hs eK) λU H R q=>by
 obtain⟨G,I,Γ,ds,ae,r,e1,k⟩:=q;obtain⟨d,Γ1,e2,e3⟩:=uP e1;obtain⟨e4,rfl⟩:=u6 e3;refine⟨G,I,Γ,d,_,r,e2,λvs H1 I1 r1 g1 hd=>?_⟩;unfold zipI at e4;split at e4
 ·cases e4;obtain⟨x,y,rfl,hx,hy⟩:=hd.two;obtain⟨l1,xs,rfl,h1,h2⟩:=u5 hx;obtain⟨l2,ys,rfl,h3,h4⟩:=u5 hy;exact .inl ⟨l1,l2,xs,ys,rfl,(Same.rdK r1.iH h1).sq,(Same.rdK r1.iH h3).sq,k _ _ _ r1 g1 (Dh (λs h=>by rcases h with h | h;exact .inl (Same.rd s h);exact .inr h) (λ_=>.inr trivial) h1.sq h3.sq h2 h4)⟩
 ·cases e4;obtain⟨x,y,rfl,hx,hy⟩:=hd.two;obtain⟨l1,xs,rfl,h1,h2⟩:=u7 hx;obtain⟨l2,ys,rfl,h3,h4⟩:=u7 hy;exact .inr ⟨l1,l2,xs,ys,rfl,Same.sqT r1.iH h1,Same.sqT r1.iH h3,k _ _ _ r1 g1 (Dh (λs h=>Same.sqT s h) (λ_=>.inr trivial) h1 h3 h2 h4)⟩
 ·cases e4
section
variable {k:Kd}
theorem drawsK(ok:KdOk k){prog:u_}{w:C_}(hh:A.handled=none)(it l:g_)(eJ:l≠it)(ah:Array b_):Draws prog w A it [it,l] ah.size (λi v=>ah[i]?=some v) (λi h=>k.it h it l i/\k.sq h l ah) where
 live:=λi h st=>by obtain⟨o,e,_⟩:=ok.itObj st.1;exact⟨o,e⟩
 frame:=λi h h' st kk=>⟨ok.itAt st.1 λo e=>kk _ (by simp) o e,ok.sqAt st.2 λo e=>kk _ (by simp) o e⟩
 item:=λi s Q E hi st hQ=>ok.item st.1 st.2 (x:=ah[i]) (by simp[hi]) λh' h1 h2=>hQ _ h' s.toks (by simp[hi]) ⟨h1,ok.sqAt st.2 λo e=>h2.extBut _ _ eJ e⟩ h2
 done:=λs Q E st hE=>ok.stop hh st.1 st.2 (by simp) hE
theorem Ov(ok:KdOk k)(l:g_)(ah:Array b_):
  Meets (RV.«enumerate.__new__» ⟨[.type "enumerate", .ref l],[]⟩) (λ_ R s=>k.sq s.heap l ah ∧
   R (.ok (.ret (.ref (s.heap.push { cls:=.type k.nm,data:=.fields #[.ref l,.int 0 0] }).objs.size)))
    { s with heap:=(s.heap.push { cls:=.type k.nm,data:=.fields #[.ref l,.int 0 0] }).push { cls:=.type "enumerate", data:=.fields #[.none,.bool false,.ref s.heap.objs.size,R9 0,.none,.none] } }):=
 .of_wp λprog w A R s h=>by
  obtain⟨hp,gn,dw,tk,os⟩:=s;obtain⟨hl,h⟩:=h;have iJ:=sub_enumerate;have hL:k.sq (c_.heap ⟨hp,gn,dw,tk,os⟩) l ah:=hl
  wp_walk using ok.iter hL
  refine wpAny_stack_any λframes=>d_ ?_
  split
  next c _ _ _ _ _=>cases c == b_.type "enumerate"<;>(wp_walk using ok.iter hL;exact⟨_,rfl,h⟩)
  next=>wp_walk using ok.iter hL;exact⟨_,rfl,h⟩
end
end
section
variable{prog:u_}{w:C_}{E:b_->c_->Prop}{s:c_}{k:Kd}
noncomputable abbrev en1(k:Kd)(h:K_)(l:g_):K_:=h.push { cls:=.type k.nm,data:=.fields #[.ref l,.int 0 0] }
noncomputable abbrev en2(k:Kd)(h:K_)(l:g_):K_:=(en1 k h l).push { cls:=.type "enumerate", data:=.fields #[.none,.bool false,.ref h.objs.size,R9 0,.none,.none] }
theorem IC(ok:KdOk k){Q:b_->c_->Prop}(hL:k.sq s.heap l ah)(made:∀n g,n=s.heap.objs.size->IsEnum g (n+1) n 0 .none->k.it g n l 0->(∀b o,s.heap.get? b=some o->g.get? b=some o)->Q (.ref (n+1)) { s with heap:=g }):
  m_ (l_ prog w) A (call (b_.type "enumerate") ([l].map b_.ref)) Q E s:=by
 have bn:(en1 k s.heap l).objs.size=s.heap.objs.size+1:=RT ..;have jM:(en2 k s.heap l).get? (en1 k s.heap l).objs.size=some _:=r_ _ rfl;rw[bn] at jM;refine callType_new F.called_enumerate (by decide) (F.typeCall_enumerate_1 _) (F.newCall_enumerate_1 _) (λobj=>F.args_object_init_2 obj _) F.entry_enumerate_new (Ov ok l ah) ⟨hL,?_⟩;have put:Q (.ref (s.heap.objs.size+1)) { s with heap:=en2 k s.heap l }:=made _ _ rfl jM (ok.itAt ok.new λo e=>e_ _ e) λb o x=>e_ _ (e_ _ x)
 rw[←bn] at put jM;exact⟨⟨_,jM,rfl⟩,put⟩
end
section
variable{B:BB}{a b c:L_}{es:List L_}{gb gc:M D}{k:Kd}
noncomputable def Ite(rd:Hp->g_->List V->Prop)(l:g_):It:=
 ⟨λi H=>∃xs x,rd H l xs/\xs[i]?=some x,λi H v H'=>∃p x,H p=none/\v=.ref p/\H'=upd H p (.tup [.int i,x])/\(∀xs,rd H l xs->xs[i]?=some x),λi H=>∃xs,rd H l xs/\xs.length<=i⟩
theorem Hz{P:u_}{w:C_}{K:PySem.W.Frag}{x1:Nat}{rd:Hp->g_->List V->Prop}(ok:KdOk k)(kr:KdRd K k rd){z it:g_}(lY:z≠it)(oo:l≠it)(qO:z≠l):
  Turn P w K (.Tuple bK x1 tp) (Ite rd l) [z,it] z (λi h=>(∃old,IsEnum h z it i old)/\k.it h it l i) where
 mem:=by simp
 obj:=λi h st b hb=>by
  obtain⟨⟨old,a1⟩,a2⟩:=st;rw[A_,q_] at hb
  rcases hb with rfl | rfl
  ·exact⟨_,a1,λv q=>by cases(show fields _=VR v from q)⟩
  ·exact ok.itObj a2
 keep:=λi h h' st kk=>by
  obtain⟨⟨old,a1⟩,a2⟩:=st;exact⟨⟨old,kk _ (by simp) _ a1⟩,ok.itAt a2 λo e=>kk _ (by simp) o e⟩
 item:=by
  intro X hP hw hK hc i aa s U H E I hf st hg;subst hP hw;obtain⟨⟨old,a1⟩,a2⟩:=st;obtain⟨xs,x,g1,g3⟩:=hg;obtain⟨ac,r1,t1⟩:=kr.of hK I g1;obtain⟨u1,e1,e2⟩:=r1.get g3
  have aR:i < ac.toArray.size:=by
   have:=(n_.mp e1).1;simpa using this
  have D:=drawsK ok (prog:=X.prog) (w:=X.w) (A:=X.A.in1) (I.ok.hd hc) it l oo ac.toArray;refine wpAny_pyNext_enum_itemD D a1 ⟨a2,t1⟩ aR lY (by simp[lY,qO]) λy h' tk b0 b1 b2 b3 b4 b5=>?_
  have hy:y=u1:=by
   have eG:ac.toArray[i]?=some u1:=by simpa using e1
   have oq:ac.toArray[i]?=some y:=b0;rw[eG] at oq;cases oq;rfl
  subst hy;refine⟨.ref s.heap.objs.size,rfl,wpAny_letOwnedTupleGo_enum b1 λh2 c1 c2=>?_⟩;have iK:z≠s.heap.objs.size:=H_ (w_ a1);have qP:it≠s.heap.objs.size:=H_ (ok.itLt a2)
  have kk:∀b u,b∉[z,it]->s.heap.get? b=some u->h2.get? b=some u:=λb u hb e=>by
   simp only[A_,S_,or_false,not_or] at hb;exact c2.extBut _ _ hb.1 (b5 b u hb.1 hb.2 e)
  have pT:=c2.extBut _ _ (QW iK) b3;have I1:Inv X aa U (upd H s.heap.objs.size (.tup [.int i,x])) { s with heap:=h2,toks:=tk+1 }:=Df (t':=tk+1) I hf kk (x_ _) ⟨by show 2<=D_;rw[Rz];decide,[.int i tk,y],.cons ⟨_,rfl⟩ (.cons e2 .nil),⟨_,pT,rfl,_,rfl⟩⟩;have fr:=I.hok.fresh (x_ s.heap.objs.size);refine⟨.ref s.heap.objs.size,_,I1,rfl,⟨s.heap.objs.size,x,fr,rfl,rfl,λzs hz=>by rw[kr.inj hK I hz g1];exact g3⟩,⟨⟨y,c1⟩,ok.itAt b2.1 λo e=>c2.extBut _ _ lY.symm e⟩,λb hb=>?_⟩;have lW:=(hf b hb).1
  have nb:b≠s.heap.objs.size:=by
   rw[A_,q_] at hb
   rcases hb with rfl | rfl
   ·exact iK
   ·exact qP
  rw[uS nb];exact lW
 done:=by
  intro X hP hw hK hc i aa s U H E I hf st hg;subst hP hw;obtain⟨⟨old,a1⟩,a2⟩:=st;obtain⟨xs,g1,g3⟩:=hg;obtain⟨ac,r1,t1⟩:=kr.of hK I g1;have dN:=r1.length;have hT:s.TypeIs (.ref z) "enumerate":=⟨_,a1,rfl⟩;have hx:ac.toArray[i]?=none:=by simp;omega
  unfold Sm;refine a_ (SW (Rr (name:=Sc "__next__") hT Vs (Rv Vs hT F.entry_enumerate_next (a_ (RN (a:=(b_.ref z,[])) rfl (a_ (Rt (i:=2) a1 rfl (x:=.ref it) rfl ?_)))) (F.args_enumerate_next_1 _))));refine a_ (ok.stop (I.ok.hd hc) a2 t1 hx λh' x fm lK=>?_);obtain⟨o,ho,lX⟩:=lK;refine a_ (SN (T:= "StopIteration") (b:=true) ⟨o,ho,lX⟩ VF ?_);refine d_ ⟨rfl,xL (t':=s.toks) I hf λb u hb e=>?_⟩;simp only[A_,S_,or_false,not_or] at hb;exact fm b u hb.2 e
 self:=λ_ _ _ _ _ st h=>by obtain⟨⟨old,a1⟩,_⟩:=st;exact Wm a1 h
noncomputable def iEnum(K:PySem.W.Frag)(ta:TA):TI:=λU H R=>ta U H λvs H1=>(∃l xs,vs=[.ref l]/\SqL K H1 l xs/\R (Ite (λH a xs=>SqL K H a xs) l) H1)\/(∃l xs,vs=[.ref l]/\SqT K H1 l xs/\R (Ite (λH a xs=>SqT K H a xs) l) H1)
theorem DJ{rd:Hp->g_->List V->Prop}(ok:KdOk k)(kr:KdRd X.K k rd){x1:Nat}{H:Hp}{s:c_}{R:It->Hp->Prop}(I:Inv X aa U H s)(h1:rd H l xs)(q:R (Ite rd l) H):
  m_ (l_ X.prog X.w) X.A (call (.type "enumerate") [.ref l]) (λv s1=>m_ (l_ X.prog X.w) X.A (V7 v) (PIE X aa U (.Tuple bK x1 tp) R) X.xe s1) X.xe s:=by
 obtain⟨ac,r1,t1⟩:=kr.of rfl I h1;refine IC ok t1 λn h' hn a1 a4 a6=>Wm a1 ?_
 subst hn;have I1:Inv X aa U H { s with heap:=h' }:=I.kept (t':=s.toks) a6;have lt:=ok.sqLt t1;refine⟨s.heap.objs.size+1,[s.heap.objs.size+1,s.heap.objs.size],_,_,H,rfl,I1,Hz ok kr (Uf _) (H_ lt) (Tg (Sx lt)),⟨⟨_,a1⟩,a4⟩,λb hb=>?_,q⟩;rw[A_,q_] at hb;have up:∀n,FpOk X aa H (s.heap.objs.size+n):=λn=>I.fpOk (R8 _ _) (I.hok.fresh (R8 _ _))
 rcases hb with rfl | rfl
 ·exact up 1
 ·exact up 0
theorem Hu{x1:Nat}{p:Pos}(hg:Gl X "enumerate")(hm:X.mg "enumerate"=none)(ha:PA X [a] ta)(hs:f_ [a] X.env=[(false,eval a X.env)]:=by rfl):
  PI X (.Tuple bK x1 tp) (.Call (.Name "enumerate" p) [a] [] pos) (iEnum X.K ta):=by
 intro aa s U H R I h;refine Call_ (v3 I hg hm boot_enumerate (Rb (thn (ha pos aa s U H _ I h) λus s1 ⟨vs,H1,I1,r1,q1⟩=>?_) hs rfl))
 rcases q1 with⟨l1,xs,e,h1,q⟩ | ⟨l1,xs,e,h1,q⟩
 ·subst e;obtain⟨u1,rfl,e1⟩:=r1.one;cases e1;exact DJ Gn (Ed _) I1 h1 q
 ·subst e;obtain⟨u1,rfl,e1⟩:=r1.one;cases e1;exact DJ Fq (CU _) I1 h1 q
noncomputable def numD:Nat->List D->List D
 | _,[]=>[]
 | n,d::ds=>.tup [.int n,d]::numD (n+1) ds
theorem yB:∀{ds:List D}{n i:Nat}{d:D},(numD n ds)[i]?=some d->∃x,ds[i]?=some x/\d=.tup [.int ((n+i:Nat):Int),x]
 | [],n,i,d,h=>by rw[numD] at h;simp at h
 | c::ds,n,0,d,h=>by rw[numD] at h;simp at h;exact⟨c,rfl,h.symm⟩
 | c::ds,n,i+1,d,h=>by
  rw[numD] at h;obtain⟨x,e1,e2⟩:=yB (i:=i) (by simpa using h);refine⟨x,by simpa using e1,?_⟩;rw[e2,show n+1+i=n+(i+1) from by omega]
theorem DF:∀(ds:List D) (n:Nat),(numD n ds).length=ds.length
 | [],n=>by rw[numD]
 | c::ds,n=>by rw[numD,Rp,Rp,DF ds]
noncomputable def enumI(ds:List D):Option (List D):=match ds with
 | [.lst xs]=>some (numD 0 xs)
 | [.tup xs]=>some (numD 0 xs)
 | _=>none
theorem Ey{K:PySem.W.Frag}{rd:Hp->g_->List V->Prop}(mono:∀{H a xs},Same I H->rd I a xs->rd H a xs)(h1:rd I l xs)(i1:IsA K I ds xs):Yields K I (numD 0 ds) (Ite rd l):=λi H s=>by
 refine⟨λd hd=>?_,λhi=>⟨xs,mono s h1,?_⟩⟩
 ·obtain⟨y,e1,rfl⟩:=yB hd;obtain⟨x,f1,f2⟩:=i1.get e1;refine⟨⟨xs,x,mono s h1,f1⟩,λv H2 hy=>?_⟩;obtain⟨p,x',g1,g2,g3,g4⟩:=hy;have k1:=g4 xs (mono s h1);rw[f1] at k1;cases k1;refine .inr ⟨p,_,[.int i,x],rfl,g2,g1,g3,IsA.cons ?_ (IsA.cons f2 IsA.nil)⟩;rw[U2];exact Is.int _
 ·rw[DF,i1.length] at hi;exact hi
theorem EN{x1:Nat}{p:Pos}{t:M (List D)}(hg:Gl X "enumerate")(hm:X.mg "enumerate"=none)(ha:AD X B [a] t)(hs:f_ [a] X.env=[(false,eval a X.env)]:=by rfl):
  ITD X B (.Tuple bK x1 tp) (.Call (.Name "enumerate" p) [a] [] pos) (fn1 enumI t):=PI.imp (Hu hg hm ha hs) λU H R q=>by
 obtain⟨G,I,Γ,ds,ae,r,e1,k⟩:=q;obtain⟨d,Γ1,e2,e3⟩:=uP e1;obtain⟨e4,rfl⟩:=u6 e3;refine⟨G,I,Γ,d,_,r,e2,λvs H1 I1 r1 g1 hd=>?_⟩;unfold enumI at e4;split at e4
 ·cases e4;obtain⟨x,rfl,hx⟩:=hd.one;obtain⟨l1,xs,rfl,h1,h2⟩:=u5 hx;exact .inl ⟨l1,xs,rfl,(Same.rdK r1.iH h1).sq,k _ _ _ r1 g1 (Ey (λs h=>by rcases h with h | h;exact .inl (Same.rd s h);exact .inr h) h1.sq h2)⟩
 ·cases e4;obtain⟨x,rfl,hx⟩:=hd.one;obtain⟨l1,xs,rfl,h1,h2⟩:=u7 hx;exact .inr ⟨l1,xs,rfl,Same.sqT r1.iH h1,k _ _ _ r1 g1 (Ey (λs h=>Same.sqT s h) h1 h2)⟩
 ·cases e4
noncomputable def blsD:List D->Option (List Bool)
 | []=>some []
 | .bl b::ds=>match blsD ds with
  | some bs=>some (b::bs)
  | none=>none
 | _=>none
theorem yl:∀{ds:List D}{bs:List Bool},blsD ds=some bs->ds=bs.map .bl
 | [],bs,h=>by rw[blsD] at h;cases h;rfl
 | .bl b::ds,bs,h=>by
  rw[blsD] at h;cases e:blsD ds with
  | none=>rw[e] at h;cases h
  | some cs=>rw[e] at h;cases h;rw[yl e];rfl
 | .non::_,_,h=>by cases h
 | .int _::_,_,h=>by cases h
 | .str _::_,_,h=>by cases h
 | .tup _::_,_,h=>by cases h
 | .lst _::_,_,h=>by cases h
 | .exc _ _::_,_,h=>by cases h
theorem AW{K:PySem.W.Frag}{I:Hp}:∀{bs:List Bool}{xs:List V},IsA K I (bs.map .bl) xs->xs=bs.map .bl
 | [],xs,h=>h.nil_inv
 | b::bs,xs,h=>by
  obtain⟨x,r,rfl,h1,h2⟩:=h.cons_inv;rw[vx h1,AW h2];rfl
theorem A2:∀{bs:List Bool}{us:List b_},Vals (bs.map .bl) us->us=bs.map .bool
 | [],us,h=>by cases h;rfl
 | b::bs,us,h=>by
  cases h with
  | cons r t=>rw[A2 t];cases r;rfl
theorem JF(bs:List Bool):(RR bs.length).all (λi=>bs.getD i true)=bs.all id:=by
 induction bs with
 | nil=>rfl
 | cons b bs ih =>
  rw[Rp,So,Sd,List.all_map,Sd]
  congr 1
theorem MF(bs:List Bool):(RR bs.length).any (λi=>bs.getD i true)=bs.any id:=by
 induction bs with
 | nil=>rfl
 | cons b bs ih =>
  rw[Rp,So,Wk,List.any_map,Wk]
  congr 1
theorem NH(hc:X.calm=true):CallR X (.builtin "all") (λxs H Q=>∃(p:g_) (bs:List Bool),xs=[.ref p]/\SqL X.K H p (bs.map .bl)/\Q (.bl (bs.all id)) H):=by
 intro aa s U H xs us Q I r h;obtain⟨p,bs,rfl,hq,q⟩:=h;obtain⟨u,rfl,ru⟩:=vals1 r;cases ru;obtain⟨ac,rv,t,hz⟩:=I.list hq;have:=A2 rv;subst this;have lt:p < s.heap.objs.size:=by obtain⟨_,e,_⟩:=t.isList;exact w_ e
 refine call_all_walk (RA t.isList ?_);refine⟨s.heap.objs.size,_,_,_,_,_,λi=>bs.getD i true,rfl,S7 (A:=X.A.in1) (I.ok.hd hc) s.heap.objs.size p (H_ lt) _,⟨⟨_,r_ _ rfl,rfl,rfl⟩,t.isList.push _⟩,?_,?_⟩
 ·intro i v s' Q' E' hv hQ;have dy:(bs.map b_.bool)[i]?=some v:=by simpa using hv
  obtain⟨b,e1,rfl⟩:=getMap dy;have hQ:Q' (bs.getD i true) s':=hQ;rw[j_,e1] at hQ;exact Ra hQ
 ·intro h' tk kk;have e1:(bs.map b_.bool).toArray.size=bs.length:=by simp
  rw[e1,JF];refine⟨.bl (bs.all id),H,I.kept λb o e=>kk b o (by simp only[q_];exact H_ (w_ e)) (e_ _ e),rfl,q⟩
theorem NF(hc:X.calm=true):CallR X (.builtin "any") (λxs H Q=>∃(p:g_) (bs:List Bool),xs=[.ref p]/\SqL X.K H p (bs.map .bl)/\Q (.bl (bs.any id)) H):=by
 intro aa s U H xs us Q I r h;obtain⟨p,bs,rfl,hq,q⟩:=h;obtain⟨u,rfl,ru⟩:=vals1 r;cases ru;obtain⟨ac,rv,t,hz⟩:=I.list hq;have:=A2 rv;subst this;have lt:p < s.heap.objs.size:=by obtain⟨_,e,_⟩:=t.isList;exact w_ e
 refine call_any_walk (RA t.isList ?_);refine⟨s.heap.objs.size,_,_,_,_,_,λi=>bs.getD i true,rfl,S7 (A:=X.A.in1) (I.ok.hd hc) s.heap.objs.size p (H_ lt) _,⟨⟨_,r_ _ rfl,rfl,rfl⟩,t.isList.push _⟩,?_,?_⟩
 ·intro i v s' Q' E' hv hQ;have dy:(bs.map b_.bool)[i]?=some v:=by simpa using hv
  obtain⟨b,e1,rfl⟩:=getMap dy;have hQ:Q' (bs.getD i true) s':=hQ;rw[j_,e1] at hQ;exact Ra hQ
 ·intro h' tk kk;have e1:(bs.map b_.bool).toArray.size=bs.length:=by simp
  rw[e1,MF];refine⟨.bl (bs.any id),H,I.kept λb o e=>kk b o (by simp only[q_];exact H_ (w_ e)) (e_ _ e),rfl,q⟩
noncomputable def allF(ds:List D):Option D:=match ds with
 | [.lst xs]=>match blsD xs with
  | some bs=>some (.bl (bs.all id))
  | none=>none
 | _=>none
noncomputable def anyF(ds:List D):Option D:=match ds with
 | [.lst xs]=>match blsD xs with
  | some bs=>some (.bl (bs.any id))
  | none=>none
 | _=>none
theorem BY{p:Pos}{t:M (List D)}(hc:X.calm=true)(hg:Gl X "all")(hm:X.mg "all"=none)(ha:AD X B [e] t)(he:f_ [e] X.env=(false,eval e X.env)::f_ [] X.env:=by rfl)(aB:(P_ pos (f_ [] X.env)).any (·.1)=false:=by rfl):
  ED X B (.Call (.Name "all" p) [e] [] pos) (fn1 allF t):=wB (NH hc) (λds d e B G I H U Γ xs Q r h k=>by
 unfold allF at e;split at e
 ·split at e
  ·rename_i bs eb;cases e;have:=yl eb;subst this;obtain⟨x,rfl,hx⟩:=h.one;obtain⟨q,zs,rfl,h3,h4⟩:=u5 hx;have:=AW h4;subst this;exact⟨q,bs,rfl,(Same.rdK r.iH h3).sq,k.now r (Is.bl _)⟩
  ·cases e
 ·cases e) hg hm boot_all ha (by decide) (by decide) he aB
theorem JC{p:Pos}{t:M (List D)}(hc:X.calm=true)(hg:Gl X "any")(hm:X.mg "any"=none)(ha:AD X B [e] t)(he:f_ [e] X.env=(false,eval e X.env)::f_ [] X.env:=by rfl)(aB:(P_ pos (f_ [] X.env)).any (·.1)=false:=by rfl):
  ED X B (.Call (.Name "any" p) [e] [] pos) (fn1 anyF t):=wB (NF hc) (λds d e B G I H U Γ xs Q r h k=>by
 unfold anyF at e;split at e
 ·split at e
  ·rename_i bs eb;cases e;have:=yl eb;subst this;obtain⟨x,rfl,hx⟩:=h.one;obtain⟨q,zs,rfl,h3,h4⟩:=u5 hx;have:=AW h4;subst this;exact⟨q,bs,rfl,(Same.rdK r.iH h3).sq,k.now r (Is.bl _)⟩
  ·cases e
 ·cases e) hg hm boot_any ha (by decide) (by decide) he aB
noncomputable def reprF(ds:List D):Option D:=match ds with
 | [.bl b]=>some (.str (if b then "True" else "False"))
 | _=>none
end
theorem CompScope.of{cV sc:Te}{N':List Str}(h:decide (sc.kind=.function/\(∀y∈sc.names,y.2≠.cell)/\(∀y∈sc.names,y.2=.local->sc.names.lookup y.1=some .local)/\(∀y∈sc.names,y.2=.free->cV.names.lookup y.1=some .cell\/cV.names.lookup y.1=some .free)/\N'.Nodup/\N'.length=m+N.length ∧
   (∀p∈(N'.drop m).zip N,((relab sc cV).names.lookup p.1=none)\/(p.1=p.2/\(relab sc cV).names.lookup p.1≠some .local)))=true):CompScope cV sc N N' m:=by
 obtain⟨h1,h2,h3,h4,h5,h6,h7⟩:=of_decide_eq_true h;exact⟨h1,h2,h3,h4,h5,h6,h7⟩
theorem yd{P:u_}{w:C_}{K:PySem.W.Frag}{k:Nat}:FnOk P w K mg base CX0 k f fd ps (spD K λ_=>none):=by
 have no:∀vs H Q E,¬spD K (λ_=>none) vs H Q E:=λvs H Q E h=>by
  obtain⟨_,_,_,_,_,_,_,h,_⟩:=h;cases h
 exact⟨λvs H Q E h=>absurd h (no vs H Q E),λA outer s H args us vs Q E _ _ _ _ h=>absurd h (no vs H Q E)⟩
theorem LW{K:PySem.W.Frag}{H:Hp}{a:g_}{g:List R->Option (R×List R)}(nM:RdK K H a (ns.map V.int))(hg:∃rs,g [.val (.lst (ns.map D.int))]=some (.val (.bl true),rs)):spD K g [.ref a] H (λv _=>v=.bl true) λ_ _ _=>False:=by
 obtain⟨rs,hg⟩:=hg
 have ou:∀ns:List Int,IsA K H (ns.map D.int) (ns.map V.int):=λns=>by
  induction ns with
  | nil=>exact IsA.nil
  | cons n ns ih=>exact IsA.cons (Is.int n) ih
 refine⟨H,H,[.val (.lst (ns.map D.int))],.val (.bl true),rs,?_,rfl,hg,λv H' I' r g' hv=>vx (K:=K) (I:=I') hv⟩;refine⟨Same.refl _,Same.refl _,rfl,λi r e=>?_,λi j r r' v e e' m=>?_,λi ds e=>rfl⟩
 ·match i,e with
  | 0,e=>cases e;exact⟨_,rfl,Is.lst nM (ou ns)⟩
 ·match i,e with
  | 0,e=>cases e;cases m
noncomputable def hT(K:PySem.W.Frag)(H:Hp):Hp:=λb=>match Td K "letter_left" with
 | some (_,P)=>if b=P then some (.tbl "letter_left.<locals>.<lambda>") else H b
 | none=>H b
theorem CP{K:PySem.W.Frag}{H:Hp}{c P:g_}(h:Td K "letter_left"=some (c,P)):hT K H P=some (.tbl "letter_left.<locals>.<lambda>"):=by
 unfold hT;rw[h];exact if_pos rfl
theorem zB{K:PySem.W.Frag}{H:Hp}{b:g_}:hT K H b=H b\/∃c,Td K "letter_left"=some (c,b):=by
 unfold hT;cases e:Td K "letter_left" with
 | none=>exact .inl rfl
 | some q =>
  obtain⟨c,P⟩:=q;dsimp only;by_cases h:b=P
  ·subst h;exact .inr ⟨c,rfl⟩
  ·exact .inl (if_neg h)
theorem O3{P:u_}{w:C_}{K:PySem.W.Frag}{mb:Str->Option b_}{CX:CXT}{k:Nat}{a:g_}{x:Str}(KX:K.In au.heap)(fN:au.heap.Ns Q6 mg)(hb:au.heap.Ns Tx mb)(qQ:∀x:Str,x ≠ "__name__"->mb x=RU x)(gC:au.heap.NoLimit)(hg:au.gens=#[])(qR:∃bm ob,mg "__builtins__"=some (.ref bm)/\bm≠Tx/\au.heap.get? bm=some ob/\ob.cls=.type "module"/\ob.dict=some Tx/\ob.data=.plain)(ez:∀c P,Td K "letter_left"=some (c,P)->PySem.W.CodeHd au.heap c P/\au.heap.get? P=some (PySem.W.tabObj #[]))(iL:noTabs K=true)(ha:au.heap.get? a=some { cls:=.type "list", data:=.seq vs.toArray })(hi:UD vs ns)(hl:ns.length<=D_)(hr:Room k VS)(F:∀base:K_,K.In base->base.Ns Q6 mg->FnOk P w K mg base CX k fa fd [x] sp)(fQ:∀(s:c_) (u:b_),Wg s fd ⟨[u],[]⟩ [(x,u)])(dX:∀H:Hp,RdK K H a (ns.map V.int)->sp [.ref a] H (λv _=>v=.bl true) λ_ _ _=>False)(lZ:∀H e s',CX [] H au (λ_ _ _=>False) e s'->False):
  RS (l_ P w) VS (.call (.ref fa) ⟨[.ref a],[]⟩) (λr s'=>r=.ok (.ret (.bool true))/\OldK au.heap s'.heap/\s'.os=au.os/\Tf s'.gens) au:=by
 have rv:=Go hi;have ow:=hi.length
 have qS:∀{c b:g_}{o:Obj},Td K "letter_left"=some (c,b)->K.lookup b=some o->False:=λ{c b o} e lk=>by
  have e1:=KX b o lk;rw[(ez c b e).2] at e1;cases e1;have:=t_.mp iL (b,_) (PySem.W.mem_of_lookupK lk);exact absurd (show false=true from this) i_
 -- from an abstract heap in which nothing fR the script and the table may be dC
 have kP:∀H0:Hp,Only H0->RdK K (hT K H0) a (ns.map V.int)->HOk P w (hT K H0) au.heap->(∀b,H0 b≠none->b=a)->(H0 a≠none->K.lookup a=none) →
   RS (l_ P w) VS (.call (.ref fa) ⟨[.ref a],[]⟩) (λr s'=>r=.ok (.ret (.bool true))/\OldK au.heap s'.heap/\s'.os=au.os/\Tf s'.gens) au:=by
  intro H0 hO hS hok hA hK;obtain⟨H,eH⟩:∃H,H=hT K H0:=⟨_,rfl⟩;have l7:∀b,H b=H0 b\/∃c,Td K "letter_left"=some (c,b):=λb=>by rw[eH];exact zB
  rw[←eH] at hS hok;have cP:∀{b:g_}{o:Obj},au.heap.get? b=some o->H b=none->(hidT au.heap H).get? b=some o:=λe n=>ON e n
  have free:∀{b:g_}{o:Obj},au.heap.get? b=some o->o.cls≠.type "list"\/(∀xs n,o.data≠.seq xs n)->o.cls≠.none\/(∀vs,o.data≠.fields vs)->H b=none:=λ{b o} e n1 n2=>by
   rcases l7 b with q | ⟨c,q⟩
   ·rw[q];cases z:H0 b with
    | none=>rfl
    | some u =>
     have e':b=a:=hA b (by rw[z];simp);subst e';rw[ha] at e;cases e
     rcases n1 with n1 | n1
     ·exact absurd rfl n1
     ·exact absurd rfl (n1 _ _)
   ·rw[(ez c b q).2] at e;cases e
    rcases n2 with n2 | n2
    ·exact absurd rfl n2
    ·exact absurd rfl (n2 _)
  have jN:∀{b:g_}{m:Str->Option b_},au.heap.Ns b m->(hidT au.heap H).Ns b m:=λ{b m} ⟨o,es,ep,e,d,r⟩=>⟨o,es,ep,cP e (free e (.inr λxs n z=>by rw[d] at z;cases z) (.inr λvs z=>by rw[d] at z;cases z)),d,r⟩
  have ox:K.In (hidT au.heap H):=λb o e=>cP (KX b o e) (by
   rcases l7 b with q | ⟨c,q⟩
   ·rw[q];cases z:H0 b with
    | none=>rfl
    | some u =>
     have e':b=a:=hA b (by rw[z];simp);subst e';rw[hK (by rw[z];simp)] at e;cases e
   ·exact(qS q e).elim)
  have hM:Mod K mg (hidT au.heap H):=⟨ox,jN fN,⟨mb,jN hb,qQ⟩,let ⟨mc,h1,h2⟩:=gC;⟨mc,jN h1,h2⟩,by
   obtain⟨bm,ob,b1,b2,b3,b4,b5,b6⟩:=qR;exact⟨bm,ob,b1,b2,cP b3 (free b3 (.inl (by rw[b4];decide)) (.inl (by rw[b4];decide))),b4,b5,b6⟩,λc P q=>by
   obtain⟨o,vs,kQ,tf,iM,tg,inF,kR,tt,e1,e2,e3,r⟩:=(ez c P q).1
   exact⟨o,vs,kQ,tf,iM,tg,inF,kR,tt,cP e1 (free e1 (.inl (by rw[e2];decide)) (.inl (by rw[e2];decide))),e2,e3,r⟩⟩
  have e0:Env0 P w K mg (hidT au.heap H) VS [] au H:=⟨rfl,hM,λb o e=>Ot e,Wj (Ib _ _),trivial,λb hb=>absurd (show b∈([]:List g_) from hb) (by simp),hok,.of_eq hg,λc P q=>by rw[eH];exact CP q⟩;refine R7 ((F _ ox (jN fN)).run VS [] au H ⟨[.ref a],[]⟩ [.ref a] [.ref a] _ _ hr e0 (fQ au (.ref a)) (.cons rfl .nil) (dX H hS)) λr s' h=>?_
  cases r with
  | error e=>exact(lZ H e s' h).elim
  | ok fl =>
   cases fl with
   | next=>exact W9 h
   | brk=>exact W9 h
   | cont=>exact W9 h
   | ret u =>
    obtain⟨v,H',os,bare,un,kT,r',q⟩:=h;have q':v=.bl true:=q;subst q';obtain rfl:u=b_.bool true:=r';refine⟨rfl,⟨λb o e=>?_,λb o e=>un.there b o e (by simp)⟩,os,bare⟩
    rcases l7 b with q | ⟨c,q⟩
    ·cases z:H0 b with
     | none=>exact .inl (un.keep b o e (by rw[q];exact z) (by intro z;exact absurd (show b∈([]:List g_) from z) (by simp)) (by simp))
     | some u =>
      rcases hO b with z' | ⟨ob,xs,z'⟩
      ·rw[z] at z';cases z'
      ·rw[←q] at z';have z2:=un.frzs b ob _ z';obtain⟨e1,_⟩:=hok b _ z';obtain⟨e2,_⟩:=kT b _ z2;rw[e] at e1;cases e1;exact .inl e2
    ·have z2:=un.tbls b _ (e0.tb c b q);obtain⟨ps,e2,_⟩:=kT b _ z2;obtain⟨⟨oc,fq,kQ,tf,iM,tg,inF,kR,tt,c1,c2,c3,c4,_⟩,e3⟩:=ez c b q;rw[e3] at e;cases e;exact .inr (.inl ⟨⟨c,oc,fq,c1,c2,c3,c4⟩,rfl,#[],ps,rfl,by rw[Array.empty_append];exact e2⟩)
 have iN:∀{H0:Hp}{c b:g_},Td K "letter_left"=some (c,b)->ObjOk P w (hT K H0) au.heap b (.tbl "letter_left.<locals>.<lambda>"):=λ{H0 c b} q=>⟨#[],(ez c b q).2,trivial,λpos cv z=>by cases z⟩
 have qT:∀{c:g_},Td K "letter_left"≠some (c,a):=λ{c} q=>by
  have:=(ez c a q).2;rw[ha] at this;cases this
 cases hk:K.lookup a with
 | some o =>
  -- the script is one of the module's own objects
  have e:=KX a o hk;rw[ha] at e;cases e;refine kP (λ_=>none) (λ_=>.inl rfl) (.inr ⟨vs,_,hk,rv,by rw[ow];exact hl⟩) (λb u z=>?_) (λb z=>absurd rfl z) λz=>absurd rfl z
  rcases zB (K:=K) (H:=λ_=>none) (b:=b) with q | ⟨c,q⟩
  ·rw[q] at z;cases z
  ·rw[CP q] at z;cases z;exact iN q
 | none =>
  have here:hT K (λb=>if b=a then some (.frz { cls:=.type "list", data:=.seq vs.toArray } (.lst (ns.map V.int))) else none) a=some (.frz { cls:=.type "list", data:=.seq vs.toArray } (.lst (ns.map V.int))):=by
   rcases zB (K:=K) (H:=λb=>if b=a then some (.frz { cls:=.type "list", data:=.seq vs.toArray } (.lst (ns.map V.int))) else none) (b:=a) with q | ⟨c,q⟩
   ·rw[q];exact if_pos rfl
   ·exact absurd q qT
  refine kP (λb=>if b=a then some (.frz { cls:=.type "list", data:=.seq vs.toArray } (.lst (ns.map V.int))) else none) (λb=>?_) (.inl (.inr ⟨_,here⟩)) (λb u z=>?_) (λb z=>?_) λ_=>hk
  ·by_cases hb:b=a
   ·exact .inr ⟨_,_,if_pos hb⟩
   ·exact .inl (if_neg hb)
  ·rcases zB (K:=K) (H:=λb=>if b=a then some (.frz { cls:=.type "list", data:=.seq vs.toArray } (.lst (ns.map V.int))) else none) (b:=b) with q | ⟨c,q⟩
   ·rw[q] at z;by_cases hb:b=a
    ·have z':=(if_pos hb).symm.trans z;cases z';subst hb;exact⟨ha,by rw[p_];exact hl,vs,_,rv,ha⟩
    ·have z':=(if_neg hb).symm.trans z;cases z'
   ·rw[CP q] at z;cases z;exact iN q
  ·by_cases hb:b=a
   ·exact hb
   ·exact absurd (if_neg hb) z
theorem OO{l:PySem.W.OpenLaw}{k:Nat}{q:u_}{XP:(Str->Option b_)->K_->Prop}{YP:C_->K_->Prop}{d:DefRec}{K:Params->PySem.W.Frag}{CX:C_->CXT}{sp:C_->Sp}{x:Str}(hn:l.most=some n)(ft:n<=D_)(iu:d.params.defaults=[])(hr:Room k VS)(bU:∃d',(recsOf q).find? (λe=>e.name == ("letter_left":Str))=some d')(iL:∀p,noTabs (K p)=true)(hY:∀(w:C_) (h:K_),YP w h->(K w.params).In h)(F:∀(w:C_) (mg:Str->Option b_) (fa:g_) (h:K_),(K w.params).In h->h.Ns Q6 mg->mg d.name=some (.ref fa) →
   ∃fd:R6,(∀(s:c_) (u:b_),Wg s fd ⟨[u],[]⟩ [(x,u)]) ∧
    ∀base:K_,(K w.params).In base->base.Ns Q6 mg->FnOk l.prog w (K w.params) mg base (CX w) k fa fd [x] (sp w))(dX:∀(w:C_) (H:Hp) (a:g_) (ns:List Int),ns.length<=n->RdK (K w.params) H a (ns.map V.int)->sp w [.ref a] H (λv _=>v=.bl true) λ_ _ _=>False)(lZ:∀(w:C_) (H:Hp) (s:c_) (e:b_) (s':c_),CX w [] H s (λ_ _ _=>False) e s'->False):
  PySem.W.WalkO q cU XP YP l.row.toRowW d [] (λf vs=>PySem.call f vs):=by
 refine Att.Kv hn iu λw s₀ au mg mb fa o pm cd bT a vs ns G uM ho hd aT iw iy fJ aR hg=>?_
 have KX:=hY w _ uM;obtain⟨fd,hb,hF⟩:=F w mg fa _ KX G.T.g iw;obtain⟨d',bS⟩:=bU;exact O3 KX G.T.g G.T.b G.T.builtins G.T.nolimit hg G.T.bmain (λc P q=>PySem.W.tab_of G.T KX bS q) (iL _) iy fJ (z_ aR ft) hr hF hb (λH hS=>dX w H a ns aR hS) λH e s'=>lZ w H au e s'
noncomputable def un1{α:Type}(F:D->Option α)(g:M D):M α:=bnd g λd=>lft (F d)
section
variable{B:BB}
noncomputable def negI(d:D):Option D:=match d with
 | .int i=>some (.int (-i))
 | _=>none
theorem Nu:∀U H Q,tD X.K B (un1 negI ga) U H Q->tUn (rU λi=>.int (-i)) (tD X.K B ga) U H Q:=λU H Q q=>by
 obtain⟨G,I,Γ,d,ae,r,e1,k⟩:=q;obtain⟨d1,Γ1,e2,e3⟩:=uP e1;obtain⟨e4,rfl⟩:=u6 e3;unfold negI at e4;split at e4
 ·cases e4;exact⟨G,I,Γ,_,_,r,e2,λv H1 I1 r1 g1 h1=>⟨_,uZ h1,k _ _ _ r1 g1 (Is.int _)⟩⟩
 ·cases e4
theorem xP(ha:ED X B e ga):ED X B (.UnaryOp .USub e pos) (un1 negI ga):=PE.imp (HV NR ha) Nu
end
end DL
namespace PySem.SeqAt
def RcLtAt(A:Rh)(s:c_)(y x:b_)(b:Bool):Prop:=
 ∀(prog:u_) (w:C_) (E:b_->c_->Prop) (Q:b_->c_->Prop),Q (.bool b) s->m_ (l_ prog w) A (UF .Lt y x) Q E s
noncomputable def ltFrom(e lt:Nat->Bool)(d:Bool):List Nat->Bool
 | []=>d
 | i::r=>if e i then ltFrom e lt d r else lt i
theorem JU(u v:g_)(us vs:Array b_)(p q:Nat)(du dv:Option g_)(ku kv:Array (Option b_))(e lt:Nat->Bool):
  Meets (RV.«tuple.__lt__» ⟨[.ref u,.ref v],[]⟩) (λA out s=>(s.heap.get? u=some ⟨.type "tuple", du,.seq us p,ku⟩/\s.heap.get? v=some ⟨.type "tuple", dv,.seq vs q,kv⟩) ∧
    (∀j (h1:j < us.size) (h2:j < vs.size),WJ A.in1 s us[j] vs[j] (e j)/\(e j=false->RcLtAt A.in1 s us[j] vs[j] (lt j)))/\out (.ok (.ret (.bool (ltFrom e lt (decide (us.size < vs.size)) (RR (min us.size vs.size)))))) s):=
 .of_wp λprog w A out s given=>by
  obtain⟨hp,gn,dw,tk,os⟩:=s;obtain⟨⟨gu,gv⟩,iO,oy⟩:=given;obtain⟨iP,hs⟩:∃iP:Nat->Prop,iP=λi=>out (.ok (.ret (.bool (ltFrom e lt (decide (us.size < vs.size)) ((RR (min us.size vs.size)).drop i))))) ⟨hp,gn,dw,tk,os⟩:=⟨_,rfl⟩
  have gD:=AutoSeq1.sub_tuple_tuple;have len:(us.toList.zip vs.toList).length=min us.size vs.size:=by rw[WZ];rfl
  wp_walk using UQ gu,UQ gv,wpAny_forIn_list _ (λleft fM now=>fM.1=none/\now=⟨hp,gn,dw,tk,os⟩/\∃i,left=(us.toList.zip vs.toList).drop i/\iP i) _
  case turn =>
   rintro⟨y,x⟩ left fM now ⟨aV,rfl,i,bj,say⟩
   have here:i < min us.size vs.size:=by
    rw[←len];exact Nat.lt_of_not_le λno=>by rw[Tj no] at bj;exact List.cons_ne_nil _ _ bj
   have k1:i < us.size:=by omega
   have k2:i < vs.size:=by omega
   have cut:=Q0 (l:=us.toList.zip vs.toList) (i:=i) (len▸here);rw[←bj,List.getElem_zip] at cut;obtain⟨yx,tail⟩:=List.cons.inj cut;obtain⟨rfl,rfl⟩:=Prod.mk.inj yx;rw[hs] at say;have kU:=Q0 (l:=RR (min us.size vs.size)) (i:=i) (by simpa using here);rw[UO] at kU;rw[kU,ltFrom] at say;have two:=iO i k1 k2;refine a_ (two.1 prog w _ _ ?_);cases like:e i with
   | true =>
    rw[like,if_pos rfl] at say
    wp_walk
    exact⟨rfl,rfl,i+1,tail,by rw[hs];exact say⟩
   | false =>
    rw[like,if_neg i_] at say;refine a_ (Uw (a_ (two.2 like prog w _ _ ?_)))
    wp_walk
    exact⟨_,rfl,say⟩
  case fin =>
   rintro⟨fM,_⟩ now ⟨aV,rfl,i,bj,say⟩;cases aV
   have gE:min us.size vs.size<=i:=by
    rw[←len];exact VG.mp bj.symm
   rw[hs] at say;rw[Tj (by simpa using gE),ltFrom] at say
   wp_walk
   exact⟨_,rfl,by simpa[RV.Tuple.tupleCompareSizes] using say⟩
  case h=>exact⟨rfl,rfl,0,rfl,by rw[hs];exact oy⟩
theorem RcLtAt.tuples{s:c_}{u v:g_}{us vs:Array b_}{e lt:Nat->Bool}(hu:s.heap.IsTuple u us)(hv:s.heap.IsTuple v vs)(room:A.units < Sa)(iO:∀j (h1:j < us.size) (h2:j < vs.size),WJ A.in1 s us[j] vs[j] (e j)/\(e j=false->RcLtAt A.in1 s us[j] vs[j] (lt j))):RcLtAt A s (.ref u) (.ref v) (ltFrom e lt (decide (us.size < vs.size)) (RR (min us.size vs.size))):=by
 obtain⟨⟨_,du,_,ku⟩,gu,rfl,p,rfl⟩:=hu;obtain⟨⟨_,dv,_,kv⟩,gv,rfl,q,rfl⟩:=hv;exact λprog w E Q h=>richCompare_meets_room (op:=.Lt) ⟨_,gu,rfl⟩ ⟨_,gv,rfl⟩ F.slot_tuple_lt F.entry_tuple_lt (F.args_tuple_lt_2 _ _) (JU u v us vs p q du dv ku kv e lt) ⟨⟨gu,gv⟩,iO,b_.noConfusion,h⟩ room
theorem RcLtAt.int_int{s:c_}(a:Int)(t:Tok)(b:Int)(u:Tok):RcLtAt A s (.int a t) (.int b u) (decide (a < b)):=λprog w E Q h=>PyProof.Rows.lt_int h
end PySem.SeqAt
namespace DL
open PySem PySem.Spec PyProof.Rows L2
section
variable{B:BB}{a b c:L_}{es:List L_}
noncomputable def rngV(n:Nat):List V:=(RR n).map λ(k:Nat)=>V.int (0+(k:Int))
theorem Co:∀{xs:List V}{us:List b_},xs.length=us.length->(∀(i:Nat) x u,xs[i]?=some x->us[i]?=some u->RelV x u)->Vals xs us
 | [],[],_,_=>.nil
 | [],_::_,h,_=>by cases h
 | _::_,[],h,_=>by cases h
 | x::xs,u::us,h,k=>.cons (k 0 x u rfl rfl) (Co (Tk h) λi y v e f=>k (i+1) y v e f)
theorem Mo{p p2:Pos}(hc:X.calm=true)(hl:Gl X "list")(l8:X.mg "list"=none)(hg:Gl X "range")(hm:X.mg "range"=none)(ha:PA X [a] ta)(hs:f_ [a] X.env=[(false,eval a X.env)]:=by rfl)(eK:f_ [.Call (.Name "range" p2) [a] [] dh] X.env=[(false,eval (.Call (.Name "range" p2) [a] [] dh) X.env)]:=by rfl):
  PE X (.Call (.Name "list" p) [.Call (.Name "range" p2) [a] [] dh] [] pos) (λU H Q=>ta U H λvs H1=>∃j:Int,vs=[.int j]/\-1000000<=j/\j<=1000000/\∀l,H1 l=none->Q (.ref l) (upd H1 l (.lst (rngV j.toNat)))):=by
 intro aa s U H Q I h;refine Call_ (v3 I hl l8 boot_list (Rb ?_ eK rfl));rw[eK];refine S2 (Call_ (v3 I hg hm boot_range (Rb (thn (ha dh aa s U H _ I h) λus s1 ⟨vs,H1,I1,r1,q1⟩=>?_) hs rfl)));obtain⟨j,rfl,q1,q2,q⟩:=q1;obtain⟨u,rfl,t,rfl⟩:=vals1 r1;refine call_range_1 (Th ?_);have size:rangeSize 0 j 1=j.toNat:=by rw[rangeSize_one];split<;>omega
 refine call_list_range (I1.ok.hd hc) (IsRange.new ..) (small_one (by decide) (by decide) (by omega) (by omega)) size (by omega) λg tk af c' keep bj ah=>?_
 refine⟨.ref _,_,I1.laid (t':=tk) (λb o e=>keep b o (e_ _ e)) ?_ (o:=.lst (rngV j.toNat)) ⟨?_,af.toList,c',?_,bj⟩,rfl,q _ ?_⟩
 ·exact TR (by show _ < (K_.push _ _).objs.size;rw[RT];exact Ug _)
 ·show(rngV j.toNat).length<=D_;rw[rngV,p_,Ue,Rz];omega
 ·refine Co (by rw[rngV,p_,Ue,RD,ah.1]) λi x u e f=>?_
  rw[Array.getElem?_toList] at f;obtain⟨t',rfl⟩:=ah.2 i u f;obtain⟨k,e1,rfl⟩:=getMap e;obtain⟨k1,k2⟩:=n_.mp e1;rw[UO] at k2;subst k2;exact⟨t',by simp⟩
 ·refine I1.hok.fresh (TR ?_);show _ < (K_.push _ _).objs.size;rw[RT];exact Ug _
theorem JE{K:PySem.W.Frag}(n:Nat):IsA K I (rngD 0 n) (rngV n):=by
 unfold rngD rngV
 induction RR n with
 | nil=>exact IsA.nil
 | cons k ks ih=>exact IsA.cons (Is.int _) ih
theorem Jy{p p2:Pos}{t:M (List D)}(hc:X.calm=true)(hl:Gl X "list")(l8:X.mg "list"=none)(hg:Gl X "range")(hm:X.mg "range"=none)(ha:AD X B [a] t)(hs:f_ [a] X.env=[(false,eval a X.env)]:=by rfl)(eK:f_ [.Call (.Name "range" p2) [a] [] dh] X.env=[(false,eval (.Call (.Name "range" p2) [a] [] dh) X.env)]:=by rfl):
  EO X B (.Call (.Name "list" p) [.Call (.Name "range" p2) [a] [] dh] [] pos) (fn1 rngI1 t):=PE.imp (Mo hc hl l8 hg hm ha hs eK) λU H Q q=>by
 obtain⟨G,I,Γ,ds,ae,r,e1,k⟩:=q;obtain⟨d,Γ1,e2,e3⟩:=uP e1;obtain⟨e4,rfl⟩:=u6 e3;obtain⟨j,rfl,⟨h1,h2⟩,rfl⟩:=Fy e4;refine⟨G,I,Γ,_,_,r,e2,λvs H1 I1 r1 g1 hd=>?_⟩;obtain⟨x,rfl,hx⟩:=hd.one;exact⟨j,by rw[uZ hx],h1,h2,λl hl=>(k.after g1).new r1 hl (JE _)⟩
end
section
variable{prog:u_}{w:C_}{E:b_->c_->Prop}{s:c_}
def SlotAt(P:Nat->b_->Prop)(bt:Nat->Nat->Bool)(j:Nat)(cells:Array b_):Prop:=match j with
 | 0=>cells=#[]
 | j+1=>∃b,cells=#[b,b]/\P (S0 bt j) b
theorem Iy{it:g_}{wr:List g_}{P:Nat->b_->Prop}{St:Nat->K_->Prop}{Fit:c_->Prop}{out:WR->c_->Prop}(W:UV prog w A.in1 it fp wr n P St)(dj:S∉fp)(WW:∀s,Fit s->∀i j vi vj,P i vi->P j vj->PySem.SeqAt.RcLtAt A.in1 s vi vj (bt i j))(stay:∀s h' tk,Fit s->(∀b o,b∉wr->b≠S->s.heap.get? b=some o->h'.get? b=some o)->Fit { s with heap:=h',toks:=tk })(iQ:0 < n)(fin:∀v s,P (S0 bt (n - 1)) v->Fit s->out (.ok (.ret v)) s):∀(left:Nat) (s:c_) (cells:Array b_) (c j:Nat),j+left=n->St j s.heap->Fit s->SlotAt P bt j cells->s.heap.get? S=some { cls:=.type "list", dict:=none,data:=.seq cells c,slots:=#[] } →
   RS (l_ prog w) A (.builtin "min.loop" ⟨[.ref it,.none,.ref S],[]⟩) out s:=by
 have apart:S∉wr:=λh=>dj (W.sub _ h)
 have bL:∀{g:K_}{f:Obj->Obj}{b:g_}{o:Obj},b≠S->g.get? b=some o->(g.update S f).get? b=some o:=λne e=>(B_ _ _ (QW ne)).trans e
 have aM:(toString "min"++toString ".loop":String) = "min.loop":=by decide
 intro left
 induction left with
 | zero =>
  intro s cells c j len st dO bu slot;obtain⟨m,rfl⟩:∃m,j=m+1:=⟨j - 1,by omega⟩;obtain⟨b,rfl,gF⟩:=bu;refine Q2 TF ?_;rw[Ru Ri _];refine a_ (m:=Tb (.ref S)) (Q5 slot rfl (a_ (m:=tryCatch (Sm (.ref it)) _) (Ro (W.done s _ _ (len▸st) λg tk kk=>?_))));refine a_ (m:=Tc S λ_=>#[]) (Q_ (kk S _ apart slot) rfl (a_ (Rk (d_ (fin b _ (by rw[←len];exact gF) (stay s _ tk dO λx o n1 n2 e=>bL n2 (kk x o n1 e)))))))
 | succ left ih =>
  intro s cells c j len st dO bu slot;refine Q2 TF ?_;rw[Ru Ri _];refine a_ (m:=Tb (.ref S)) (Q5 slot rfl (a_ (m:=tryCatch (Sm (.ref it)) _) (Ro (W.item j s _ _ (by omega) st λv g tk eL dz kk=>?_))));have aK:=kk S _ apart slot;have cQ:=stay s g tk dO λx o n1 _ e=>kk x o n1 e
  have next:∀(f:Obj->Obj) (aD:Array b_) (c':Nat),(g.update S f).get? S=some { cls:=.type "list", dict:=none,data:=.seq aD c',slots:=#[] }->SlotAt P bt (j+1) aD →
    RS (l_ prog w) A (.builtin "min.loop" ⟨[.ref it,.none,.ref S],[]⟩) out { s with heap:=g.update S f,toks:=tk }:=λf aD c' here is =>
   ih _ aD c' (j+1) (by omega) (W.frame _ _ _ dz λb hb o e=>bL (λz=>dj (z▸hb)) e) (stay { s with heap:=g,toks:=tk } _ tk cQ λx o _ n2 e=>bL n2 e) is here
  cases j with
  | zero =>
   cases bu;refine a_ (m:=Tc S λ_=>#[v,v]) (Q_ aK rfl ?_);rw[aM];exact d_ ⟨J_ Ri _,next _ _ _ (O_ _ aK rfl) ⟨v,rfl,eL⟩⟩
  | succ m =>
   obtain⟨b,rfl,gF⟩:=bu;refine a_ (m:=tryCatch (SE [v,v] (UF .Lt v b >>= _)) _) (Ro (F_ (a_ (WW _ cQ (m+1) (S0 bt m) v b eL gF prog w _ _ (a_ (F_ (Ra (a_ (Rk (d_ ?_))))))))));cases hb:bt (m+1) (S0 bt m) with
   | true =>
    rw[if_pos rfl];refine a_ (Q_ aK rfl (a_ (Rk ?_)));rw[aM];exact d_ ⟨J_ Ri _,next _ _ _ (O_ _ aK rfl) ⟨v,rfl,by rw[S0,hb];exact eL⟩⟩
   | false =>
    rw[if_neg i_];refine a_ (Rk ?_);rw[aM];exact d_ ⟨J_ Ri _,ih _ _ c (m+2) (by omega) dz cQ ⟨b,rfl,by rw[S0,hb];exact gF⟩ aK⟩
theorem Hj(bt:Nat->Nat->Bool):∀k,S0 bt k<=k
 | 0=>x_ _
 | k+1=>by
  rw[S0];split
  ·exact x_ _
  ·exact Nat.le_succ_of_le (Hj bt k)
theorem Ip{p:g_}{Q:b_->c_->Prop}(hh:A.handled=none)(L:s.heap.IsList p ah)(iQ:0 < ah.size)(WW:∀h' tk,(∀b o,s.heap.get? b=some o->h'.get? b=some o)->∀i j vi vj,ah[i]?=some vi->ah[j]?=some vj->PySem.SeqAt.RcLtAt A.in1 { s with heap:=h',toks:=tk } vi vj (bt i j))(fin:∀v h' tk,ah[S0 bt (ah.size - 1)]?=some v->(∀b o,s.heap.get? b=some o->h'.get? b=some o)->Q v { s with heap:=h',toks:=tk }):m_ (l_ prog w) A (call (.builtin "min") [.ref p]) Q E s:=by
 have low:p < s.heap.objs.size:=by obtain⟨_,e,_⟩:=L;exact w_ e
 refine call_function_tree F.kind_min F.plain_min F.entry_min (F.args_min1 _) ?_;refine a_ (RN (a:=[none,none]) rfl (a_ (d_ (a_ (RA L (a_ (M_ ?_)))))));have aM:(toString "min"++toString ".loop":String) = "min.loop":=by decide
 rw[aM];have W:=S7 (prog:=prog) (w:=w) (A:=A.in1) hh s.heap.objs.size p (H_ low) ah;have bn:∀o:Obj,(s.heap.push o).objs.size=s.heap.objs.size+1:=λo=>RT ..
 refine d_ ⟨J_ Ri _,Iy (Fit:=λs'=>∃h' tk,s'={ s with heap:=h',toks:=tk }/\∀b o,s.heap.get? b=some o->h'.get? b=some o) (bt:=bt) W ?_ ?_ ?_ iQ ?_ ah.size _ #[] 0 0 (U2 _) ⟨⟨_,e_ _ (r_ _ rfl),rfl,rfl⟩,(L.push _).push _⟩ ⟨_,_,rfl,λb o e=>e_ _ (e_ _ e)⟩ rfl (r_ _ rfl)⟩
 ·rw[bn];intro z;rw[A_,q_] at z
  rcases z with z | z
  ·exact absurd z (Uf _)
  ·exact absurd z (Tg (Sx low))
 ·rintro _ ⟨g,tk,rfl,keep⟩ i j vi vj hi hj;exact WW g tk keep i j vi vj hi hj
 ·rintro _ h' tk ⟨g,cY,rfl,keep⟩ k;refine⟨h',tk,rfl,λb o e=>k b o (λz=>?_) (λz=>?_) (keep b o e)⟩
  ·rw[q_] at z;exact H_ (w_ e) z
  ·rw[bn] at z;have:=w_ e;rw[z] at this;exact absurd this (Xe.mpr (Vg _))
 ·rintro v _ hv ⟨g,tk,rfl,keep⟩;exact fin v g tk hv keep
end
section
variable{B:BB}{a b c:L_}{es:List L_}{kr:Nat}
noncomputable def prD(p:Int×Int):D:=.tup [.int p.1,.int p.2]
noncomputable def ltP(p q:Int×Int):Bool:=if p.1 == q.1 then decide (p.2 < q.2) else decide (p.1 < q.1)
noncomputable def prsD:List D->Option (List (Int×Int))
 | []=>some []
 | .tup [.int a,.int b]::ds=>match prsD ds with
  | some ps=>some ((a,b)::ps)
  | none=>none
 | _=>none
theorem ND:∀(ds:List D) (ps:List (Int×Int)),prsD ds=some ps->ds=ps.map prD:=by
 intro ds
 fun_induction prsD ds with
 | case1=>intro ps h;cases h;rfl
 | case2 a b ds qs e ih=>intro ps h;cases h;rw[ih qs e];rfl
 | case3 a b ds e ih=>intro ps h;cases h
 | case4 ds=>intro ps h;cases h
noncomputable def btP(ps:List (Int×Int))(i j:Nat):Bool:=ltP (ps.getD i (0,0)) (ps.getD j (0,0))
noncomputable def minP(ps:List (Int×Int)):Int×Int:=ps.getD (S0 (btP ps) (ps.length - 1)) (0,0)
open PySem.SeqAt in
theorem IP{s:c_}{u v:g_}{p q:Int×Int}{t1 t2 t3 t4:Tok}(room:A.units < Sa)(hu:s.heap.IsTuple u #[.int p.1 t1,.int p.2 t2])(hv:s.heap.IsTuple v #[.int q.1 t3,.int q.2 t4]):RcLtAt A s (.ref u) (.ref v) (ltP p q):=by
 have:=RcLtAt.tuples (e:=λk=>if k=0 then p.1 == q.1 else p.2 == q.2) (lt:=λk=>if k=0 then decide (p.1 < q.1) else decide (p.2 < q.2)) hu hv room (λj h1 h2=>?_)
 ·have e:ltFrom (λk=>if k=0 then p.1 == q.1 else p.2 == q.2) (λk=>if k=0 then decide (p.1 < q.1) else decide (p.2 < q.2)) (decide (2 < 2)) [0,1]=ltP p q:=by
   simp only[ltFrom,ltP];by_cases z:p.1=q.1
   ·by_cases z2:p.2=q.2<;>simp[z,z2]
   ·simp[z]
  rw[←e];exact this
 ·match j,h1,h2 with
  | 0,_,_=>exact⟨WJ.int_int _ _ _ _,λ_=>RcLtAt.int_int _ _ _ _⟩
  | 1,_,_=>exact⟨WJ.int_int _ _ _ _,λ_=>RcLtAt.int_int _ _ _ _⟩
  | k+2,h,_=>exact absurd h (by simp)
theorem KC(hc:X.calm=true)(hu:X.A.units+100 < Sa):CallR X (.builtin "min") (λxs H Q=>∃(p:g_) (zs:List V) (ps:List (Int×Int)),xs=[.ref p]/\SqL X.K H p zs/\ps≠[]/\zs.length=ps.length ∧
  (∀(i:Nat) z,zs[i]?=some z->∃q,z=.ref q/\SqT X.K H q [.int (ps.getD i (0,0)).1,.int (ps.getD i (0,0)).2])/\∀z,zs[S0 (btP ps) (ps.length - 1)]?=some z->Q z H):=by
 intro aa s U H xs us Q I r h;obtain⟨p,zs,ps,rfl,hq,ne,len,iD,q⟩:=h;obtain⟨u,rfl,ru⟩:=vals1 r;cases ru;obtain⟨ac,rv,t,hz⟩:=I.list hq;have ln:=rv.length;have sz:ac.toArray.size=ps.length:=by rw[o_,←ln,len]
 have tup:∀i v,ac.toArray[i]?=some v->∃q t1 t2,v=.ref q/\s.heap.IsTuple q #[.int (ps.getD i (0,0)).1 t1,.int (ps.getD i (0,0)).2 t2]:=λi v hv=>by
  have dy:ac[i]?=some v:=by simpa using hv
  have hi:i < zs.length:=by rw[ln];exact(n_.mp dy).1
  obtain⟨q,e1,e2⟩:=iD i zs[i] (h_ hi);obtain⟨w,e3,e4⟩:=rv.get (h_ hi);rw[dy] at e3;cases e3;rw[e1] at e4;cases e4;obtain⟨bF,r2,t2,_⟩:=I.tuple e2;obtain⟨u1,u2,rfl,⟨k1,rfl⟩,⟨k2,rfl⟩⟩:=r2.two;exact⟨q,k1,k2,rfl,t2⟩
 refine Ip (bt:=btP ps) (I.ok.hd hc) t.isList (by rw[sz];exact Sf.mpr ne) (λg tk keep i j vi vj hi hj=>?_) λv g tk hv keep=>?_
 ·obtain⟨q1,t1,t2,rfl,T1⟩:=tup i vi hi;obtain⟨q2,t3,t4,rfl,T2⟩:=tup j vj hj;have up:∀{q:g_}{us:Array b_},s.heap.IsTuple q us->g.IsTuple q us:=λT=>by obtain⟨o,e,r⟩:=T;exact⟨o,keep _ o e,r⟩
  exact IP (by show X.A.units+1 < Sa;omega) (up T1) (up T2)
 ·rw[sz] at hv;have dy:ac[S0 (btP ps) (ps.length - 1)]?=some v:=by simpa using hv
  have hi:S0 (btP ps) (ps.length - 1) < zs.length:=by rw[ln];exact(n_.mp dy).1
  obtain⟨w,e3,e4⟩:=rv.get (h_ hi);rw[dy] at e3;cases e3;exact⟨_,H,I.kept keep,e4,q _ (h_ hi)⟩
noncomputable def minlF(ds:List D):Option D:=match ds with
 | [.lst xs]=>match prsD xs with
  | some (p::ps)=>some (prD (minP (p::ps)))
  | _=>none
 | _=>none
theorem Oh{p:Pos}{t:M (List D)}(hc:X.calm=true)(hr:Room kr X.A)(hg:Gl X "min")(hm:X.mg "min"=none)(ha:AD X B [e] t)(he:f_ [e] X.env=(false,eval e X.env)::f_ [] X.env:=by rfl)(aB:(P_ pos (f_ [] X.env)).any (·.1)=false:=by rfl):
  ED X B (.Call (.Name "min" p) [e] [] pos) (fn1 minlF t):=wB (KC hc (hu100 hr)) (λds d e B G I H U Γ xs Q r h k=>by
 unfold minlF at e;split at e
 ·split at e
  ·rename_i p1 ps eb;cases e;have:=ND _ _ eb;subst this;obtain⟨x,rfl,hx⟩:=h.one;obtain⟨q,zs,rfl,h3,h4⟩:=u5 hx;have L:=h4.length;rw[p_] at L
   have kW:∀(i:Nat) z,zs[i]?=some z->Is X.K I (prD ((p1::ps).getD i (0,0))) z:=λi z hz=>by
    have hi:i < (p1::ps).length:=by rw[L];exact(n_.mp hz).1
    obtain⟨z',e1,e2⟩:=h4.get (i:=i) (d:=prD (p1::ps)[i]) (by rw[y_,h_ hi];rfl);rw[hz] at e1;cases e1;rw[j_,h_ hi];exact e2
   refine⟨q,zs,p1::ps,rfl,(Same.rdK r.iH h3).sq,by simp,L.symm,λi z hz=>?_,λz hz=>k.now r (kW _ z hz)⟩;obtain⟨q2,ys,rfl,e1,e2⟩:=u7 (kW i z hz);obtain⟨y1,y2,rfl,f1,f2⟩:=e2.two;rw[uZ f1,uZ f2] at e1;exact⟨q2,rfl,Same.sqT r.iH e1⟩
  ·cases e
 ·cases e) hg hm WX ha (by decide) (by decide) he aB
end
end DL
namespace DL
open PySem PySem.W PyProof.Rows
structure Ord(lt:Nat->Nat->Bool):Prop where
 as:∀a b,lt a b=true->lt b a=false
 tr:∀a b c,lt b a=false->lt c b=false->lt c a=false
section
variable{lt:Nat->Nat->Bool}{s:c_}
def askIn(n:Nat)(lt:Nat->Nat->Bool):Nat->Nat->(Bool->c_->Prop)->c_->Prop:=λi j C s=>i < n/\j < n/\C (lt i j) s
noncomputable def gt(p:Array Nat)(i:Nat):Nat:=p.getD i 0
def Pm(n:Nat)(p:Array Nat):Prop:=p.Perm (RR n).toArray
def Dn(lt:Nat->Nat->Bool)(p:Array Nat)(m:Nat):Prop:=∀i j,i < j->j < m->lt (gt p i) (gt p j)=false
def Up(lt:Nat->Nat->Bool)(p:Array Nat)(m:Nat):Prop:=∀i j,i < j->j < m->lt (gt p j) (gt p i)=false
def Eqs(lt:Nat->Nat->Bool)(p:Array Nat)(a b:Nat):Prop:=∀i j,a<=i->i < b->a<=j->j < b->lt (gt p i) (gt p j)=false
theorem Pm.size{p:Array Nat}(h:Pm n p):p.size=n:=by
 have:=h.size_eq;simpa using this
theorem Pm.bd{p:Array Nat}(h:Pm n p)(pos:0 < n)(i:Nat):gt p i < n:=by
 unfold gt;by_cases hi:i < p.size
 ·have:p[i]∈(RR n).toArray:=h.mem_iff.mp (SG hi);rw[Xk,dif_pos hi];simpa using this
 ·rw[Xk,dif_neg hi];exact pos
theorem Av{p:Array Nat}{i:Nat}:gt p i=p[i]?.getD 0:=by
 unfold gt;exact RY ..
theorem wH{p:Array Nat}{i j:Nat}(hj:j<=p.size)(k:Nat):gt (Wn p i j) k=if i<=k/\k < j then gt p (i+j - 1 - k) else gt p k:=by
 rw[Av,Av,Av];unfold Wn;rw[getElem?_mirror_all hj];split<;>rfl
theorem GS{p:Array Nat}{cW d:Nat}(hs:cW < p.size)(hd:d<=cW)(k:Nat):gt (bubble p cW d) k=if k=cW - d then gt p cW else if cW - d < k/\k<=cW then gt p (k - 1) else gt p k:=by
 simp only[Av];rw[getElem?_bubble hs d hd];split
 ·rfl
 ·split<;>rfl
theorem Pm.rev{p:Array Nat}(h:Pm n p)(i j:Nat):Pm n (Wn p i j):=trans (mirror_perm _ _ _ _) h
theorem zF{α:Type}{oz:Nat->Nat->(Bool->c_->Prop)->c_->Prop}{Q:α->c_->Prop}{P:α->Prop}(hc:∀i j C,i < n->j < n->C (lt i j) s->oz i j C s)(hq:∀a,P a->Q a s):∀t:KasT α,t.kasWp (askIn n lt) (λa _=>P a) s->t.kasWp oz Q s
 | .ret a,h=>hq a h
 | .ask i j k,⟨h1,h2,h3⟩=>hc i j _ h1 h2 (zF hc hq (k (lt i j)) h3)
theorem yo{α Y:Type}{t:KasT α}{f:α->KasT Y}{P:α->Prop}{Q:Y->Prop}(h:t.kasWp (askIn n lt) (λa _=>P a) s)(k:∀a,P a->(f a).kasWp (askIn n lt) (λb _=>Q b) s):(t.bind f).kasWp (askIn n lt) (λb _=>Q b) s:=by
 rw[KasT.kasWp_bind];exact zF (λi j C h1 h2 h3=>⟨h1,h2,h3⟩) (λa ha=>k a ha) t h
variable (O:Ord lt)(two:2<=n)
include O
theorem Ord.irr(a:Nat):lt a a=false:=by
 cases h:lt a a with
 | false=>rfl
 | true=>rw[←h];exact O.as a a h
theorem Ord.lt_le{a b c:Nat}(h1:lt a b=true)(h2:lt c b=false):lt a c=true:=by
 cases h:lt a c with
 | true=>rfl
 | false =>
  -- c<=a,b<=c
  have:=O.tr b c a h2 h;rw[this] at h1;cases h1
include two
theorem Cg{p:Array Nat}(hp:Pm n p):∀(f m:Nat),1<=m->(kas_asc p f m).kasWp (askIn n lt) (λm' _=>m<=m'/\m'<=m+f/\(∀k,m<=k->k < m'->lt (gt p k) (gt p (k - 1))=false)/\(m' < m+f->lt (gt p m') (gt p (m' - 1))=true)) s
 | 0,m,_=>by
  rw[kas_asc];exact⟨x_ _,x_ _,λk h1 h2=>by omega,λh=>by omega⟩
 | f+1,m,hm=>by
  rw[kas_asc];refine⟨hp.bd (by omega) m,hp.bd (by omega) (m - 1),?_⟩;cases h:lt (p.getD m 0) (p.getD (m - 1) 0) with
  | true =>
   dsimp only;rw[if_pos rfl];exact⟨x_ _,by omega,λk h1 h2=>by omega,λ_=>h⟩
  | false =>
   dsimp only;rw[if_neg i_];refine zF (λi j C h1 h2 h3=>⟨h1,h2,h3⟩) (λm' h'=>?_) _ (Cg hp f (m+1) (by omega));obtain⟨a1,a2,a3,a4⟩:=h';refine⟨by omega,by omega,λk h1 h2=>?_,λh'=>a4 (by omega)⟩;by_cases z:k=m
   ·rw[z];exact h
   ·exact a3 k (by omega) h2
omit two in
theorem Up.of_steps{p:Array Nat}{m':Nat}(hm:Up lt p m)(st:∀k,m<=k->k < m'->1<=k->lt (gt p k) (gt p (k - 1))=false):Up lt p m':=by
 intro i j
 induction j with
 | zero=>intro h;omega
 | succ j ih =>
  intro eh hj;by_cases z:j+1 < m
  ·exact hm i (j+1) eh z
  ·have s1:=st (j+1) (by omega) hj (by omega);rw[Nat.add_sub_cancel] at s1;by_cases e:i=j
   ·rw[e];exact s1
   ·exact O.tr _ _ _ (ih (by omega) (by omega)) s1
omit two O in
theorem Dn.up{p:Array Nat}(hm:m<=p.size)(h:Dn lt p m):Up lt (Wn p 0 m) m:=by
 intro i j eh hj;rw[wH hm,wH hm,if_pos ⟨Rw _,hj⟩,if_pos ⟨Rw _,by omega⟩];exact h _ _ (by omega) (by omega)
omit two O in
theorem Dn.turn{p:Array Nat}{a:Nat}(hm:m<=p.size)(h:Dn lt p m)(e:Eqs lt p a m):Dn lt (Wn p a m) m:=by
 intro i j eh hj;rw[wH hm,wH hm];by_cases h1:a<=i
 ·rw[if_pos ⟨h1,by omega⟩,if_pos ⟨by omega,hj⟩];exact e _ _ (by omega) (by omega) (by omega) (by omega)
 ·rw[if_neg (by omega)];by_cases h2:a<=j
  ·rw[if_pos ⟨h2,hj⟩];exact h _ _ (by omega) (by omega)
  ·rw[if_neg (by omega)];exact h _ _ eh hj
omit two in
theorem Dn.next{p:Array Nat}(h:Dn lt p m)(hm:1<=m)(st:lt (gt p (m - 1)) (gt p m)=false):Dn lt p (m+1):=by
 intro i j eh hj;by_cases z:j < m
 ·exact h i j eh z
 ·have:j=m:=by omega
  subst this;by_cases e:i=j - 1
  ·rw[e];exact st
  ·exact O.tr _ _ _ st (h i (j - 1) (by omega) (by omega))
theorem zc:∀(f:Nat) (p:Array Nat) (m q:Nat),Pm n p->1<=m->m+f<=n->q < m->Dn lt p m->Eqs lt p (m - (q+1)) m →
  (kas_desc f p m q).kasWp (askIn n lt) (λr _=>Pm n r.1/\1<=r.2.1/\r.2.1<=n/\r.2.2 < r.2.1/\Dn lt r.1 r.2.1/\Eqs lt r.1 (r.2.1 - (r.2.2+1)) r.2.1) s
 | 0,p,m,q,hp,h1,h2,h3,h4,h5=>by
  rw[kas_desc];exact⟨hp,h1,(by show m<=n;omega),h3,h4,h5⟩
 | f+1,p,m,q,hp,h1,h2,h3,h4,h5=>by
  rw[kas_desc]
  have one:∀(p':Array Nat),Pm n p'->Eqs lt p' (m+1 - (0+1)) (m+1):=λp' _ i j a b c d=>by
   have:i=m:=by omega
   have:j=m:=by omega
   subst i;subst j;exact O.irr _
  refine⟨hp.bd (by omega) m,hp.bd (by omega) (m - 1),?_⟩;cases h:lt (p.getD m 0) (p.getD (m - 1) 0) with
  | true =>
   dsimp only;rw[if_pos rfl];have st:lt (gt p (m - 1)) (gt p m)=false:=O.as _ _ h;split
   ·have sz:m<=p.size:=by rw[hp.size];omega
    refine zc f _ (m+1) 0 (hp.rev _ _) (by omega) (by omega) (by omega) (Dn.next O (h4.turn sz h5) h1 ?_) (one _ (hp.rev _ _));rw[wH sz,wH sz,if_pos ⟨by omega,by omega⟩,if_neg (by omega)];refine O.tr _ _ _ st ?_;exact h5 _ _ (by omega) (by omega) (by omega) (by omega)
   ·exact zc f _ (m+1) 0 hp (by omega) (by omega) (by omega) (Dn.next O h4 h1 st) (one _ hp)
  | false =>
   dsimp only;rw[if_neg i_];refine⟨hp.bd (by omega) (m - 1),hp.bd (by omega) m,?_⟩;cases h':lt (p.getD (m - 1) 0) (p.getD m 0) with
   | true =>
    dsimp only;rw[if_pos rfl];exact⟨hp,h1,(by show m<=n;omega),h3,h4,h5⟩
   | false =>
    dsimp only;rw[if_neg i_];refine zc f p (m+1) (q+1) hp (by omega) (by omega) (by omega) (Dn.next O h4 h1 h') λi j a b c d=>?_
    have up:∀i,m - (q+1)<=i->i < m->lt (gt p i) (gt p m)=false:=λi x y=>O.tr _ _ _ h' (h5 i (m - 1) x y (by omega) (by omega))
    have dn:∀i,m - (q+1)<=i->i < m->lt (gt p m) (gt p i)=false:=λi x y=>O.tr _ _ _ (h5 (m - 1) i (by omega) (by omega) x y) h
    by_cases zi:i=m
    ·by_cases zj:j=m
     ·rw[zi,zj];exact O.irr _
     ·rw[zi];exact dn j (by omega) (by omega)
    ·by_cases zj:j=m
     ·rw[zj];exact up i (by omega) (by omega)
     ·exact h5 i j (by omega) (by omega) (by omega) (by omega)
theorem G0{p:Array Nat}(hp:Pm n p)(h1:1<=m)(h2:m<=n)(h:Dn lt p m):(kas_tail3 m n p).kasWp (askIn n lt) (λr _=>1<=r.1/\r.1<=n/\Pm n r.2/\Up lt r.2 r.1) s:=by
 unfold kas_tail3;refine yo (Cg O two (hp.rev 0 m) (n - m) m h1) λm' ⟨a1,a2,a3,_⟩=>?_
 have up:=h.up (by rw[hp.size];exact h2);exact⟨by omega,by omega,hp.rev 0 m,Up.of_steps O up λk x y _=>a3 k x y⟩
theorem Dv{p:Array Nat}(hp:Pm n p)(h1:1<=m)(h2:m < n)(h:Dn lt p (m+1)):(kas_descPart m n p).kasWp (askIn n lt) (λr _=>1<=r.1/\r.1<=n/\Pm n r.2/\Up lt r.2 r.1) s:=by
 unfold kas_descPart;refine yo (zc O two (n - (m+1)) p (m+1) 0 hp (by omega) (by omega) (by omega) h λi j a b c d=>?_) λr ⟨b1,b2,b3,b4,b5,b6⟩=>?_
 ·have:i=m:=by omega
  have:j=m:=by omega
  subst i;subst j;exact O.irr _
 ·split
  ·exact G0 O two (b1.rev _ _) b2 b3 (b5.turn (by rw[b1.size];exact b3) b6)
  ·exact G0 O two b1 b2 b3 b5
theorem Hs{p:Array Nat}(hp:Pm n p):(kas_count n p).kasWp (askIn n lt) (λr _=>1<=r.1/\r.1<=n/\Pm n r.2/\Up lt r.2 r.1) s:=by
 unfold kas_count;refine yo (Cg O two hp (n - 1) 1 (x_ _)) λm ⟨a1,a2,a3,a4⟩=>?_
 have up1:Up lt p m:=Up.of_steps O (m:=1) (λi j x y=>by omega) λk x y z=>a3 k x y
 split
 ·exact⟨a1,by omega,hp,up1⟩
 ·rename_i ne;have ne:m≠n:=by simpa using ne
  have gG:=a4 (by omega);split
  ·refine⟨hp.bd (by omega) 0,hp.bd (by omega) (m - 1),?_⟩;cases h:lt (p.getD 0 0) (p.getD (m - 1) 0) with
   | true =>
    dsimp only;rw[if_pos rfl];exact⟨a1,by omega,hp,up1⟩
   | false =>
    dsimp only;rw[if_neg i_]
    have all:Eqs lt p 0 m:=λi j x1 x2 y1 y2=>by
     -- the first is not WW than the gG,and they rise
     have l0:∀i,i < m->lt (gt p i) (gt p 0)=false:=λi x=>by
      by_cases z:i=0
      ·rw[z];exact O.irr _
      ·exact up1 0 i (by omega) x
     have lz:∀j,j < m->lt (gt p (m - 1)) (gt p j)=false:=λj x=>by
      by_cases z:j=m - 1
      ·rw[z];exact O.irr _
      ·exact up1 j (m - 1) (by omega) (by omega)
     -- i against j: i<=gG<=first<=j,whichever
     have f1:lt (gt p i) (gt p (m - 1))=false:=O.tr _ _ _ h (l0 i x2);exact O.tr _ _ _ (lz j y2) f1
    have sz:m<=p.size:=by rw[hp.size];omega
    have all2:Dn lt (Wn p 0 m) m:=Dn.turn sz (λi j x y=>all i j (Rw _) (by omega) (Rw _) y) all;refine Dv O two (hp.rev _ _) a1 (by omega) (Dn.next O all2 a1 ?_);rw[wH sz,wH sz,if_pos ⟨Rw _,by omega⟩,if_neg (by omega)];refine O.tr _ _ _ (O.as _ _ gG) ?_;exact all _ _ (Rw _) (by omega) (Rw _) (by omega)
  ·have:m=1:=by omega
   subst this;exact Dv O two hp (x_ _) (by omega) (Dn.next O (λi j x y=>by omega) (x_ _) (O.as _ _ gG))
theorem AO{p:Array Nat}{k:Nat}(hp:Pm n p)(hk:k < n)(up:Up lt p k):∀(f l r:Nat),l<=r->r<=k->r - l<=f->(∀i,i < l->lt (gt p k) (gt p i)=false)->(∀i,r<=i->i < k->lt (gt p k) (gt p i)=true) →
  (kas_place p k f l r).kasWp (askIn n lt) (λl' _=>l'<=k/\(∀i,i < l'->lt (gt p k) (gt p i)=false)/\∀i,l'<=i->i < k->lt (gt p k) (gt p i)=true) s
 | 0,l,r,h1,h2,h3,h4,h5=>by
  rw[kas_place];exact⟨by omega,h4,λi x y=>h5 i (by omega) y⟩
 | f+1,l,r,h1,h2,h3,h4,h5=>by
  rw[kas_place];split
  ·exact⟨by omega,h4,λi x y=>h5 i (by omega) y⟩
  ·refine⟨hp.bd (by omega) k,hp.bd (by omega) _,?_⟩;cases h:lt (p.getD k 0) (p.getD ((l+r) / 2) 0) with
   | true =>
    dsimp only;rw[if_pos rfl];refine AO hp hk up f l ((l+r) / 2) (by omega) (by omega) (by omega) h4 λi x y=>?_
    by_cases z:i=(l+r) / 2
    ·rw[z];exact h
    ·exact O.lt_le h (up _ _ (by omega) y)
   | false =>
    dsimp only;rw[if_neg i_];refine AO hp hk up f ((l+r) / 2+1) r (by omega) (by omega) (by omega) (λi x=>?_) h5;by_cases z:i=(l+r) / 2
    ·rw[z];exact h
    ·exact O.tr _ _ _ (up i ((l+r) / 2) (by omega) (by omega)) h
theorem Ft:∀(f:Nat) (p:Array Nat) (k:Nat),Pm n p->Up lt p k->1<=k->k+f=n->(kas_bin f p k).kasWp (askIn n lt) (λp' _=>Pm n p'/\Up lt p' n) s
 | 0,p,k,hp,up,h1,h2=>by
  rw[kas_bin];have:k=n:=by omega
  subst this;exact⟨hp,up⟩
 | f+1,p,k,hp,up,h1,h2=>by
  rw[kas_bin];refine yo (AO O two hp (by omega) up k 0 k (Rw _) (x_ _) (by omega) (λi h=>by omega) λi x y=>by omega) λl ⟨c1,c2,c3⟩=>?_
  refine Ft f _ (k+1) (trans (bubble_perm _ _ _) hp) (λi j eh hj=>?_) (by omega) (by omega);have hk:k < p.size:=by rw[hp.size];omega
  rw[GS hk (by omega),GS hk (by omega),show k - (k - l)=l by omega];by_cases j1:j=l
  ·rw[if_pos j1,if_neg (by omega),if_neg (by omega)];exact c2 i (by omega)
  ·rw[if_neg j1];by_cases j2:l < j/\j<=k
   ·rw[if_pos j2];by_cases i1:i=l
    ·rw[if_pos i1];exact O.as _ _ (c3 (j - 1) (by omega) (by omega))
    ·rw[if_neg i1];by_cases i2:l < i/\i<=k
     ·rw[if_pos i2];exact up _ _ (by omega) (by omega)
     ·rw[if_neg i2];exact up _ _ (by omega) (by omega)
   ·rw[if_neg j2,if_neg (by omega),if_neg (by omega)];exact up _ _ eh (by omega)
theorem Lb:(kas_sort n).kasWp (askIn n lt) (λp _=>Pm n p/\Up lt p n) s:=by
 unfold kas_sort;refine yo (Hs O two (p:=(RR n).toArray) (Array.Perm.refl _)) λr ⟨a1,a2,a3,a4⟩=>?_
 split
 ·refine Ft O two _ _ _ a3 ?_ (by omega) (by omega);rw[Nat.max_eq_left a1];exact a4
 ·have:r.1=n:=by omega
  rw[this] at a4;exact⟨a3,a4⟩
end
end DL
namespace DL
open PySem PySem.W PySem.Spec PyProof.Rows
section
variable{prog:u_}{w:C_}{E:b_->c_->Prop}{s:c_}
noncomputable def byP(vs:List b_)(p:Array Nat):List b_:=p.toList.map λi=>vs.getD i b_.none
theorem M2(vs:List b_):byP vs (RR vs.length).toArray=vs:=by
 unfold byP;refine List.ext_getElem (by simp) λi h1 h2=>?_
 simp[h2]
theorem JL{p:Array Nat}(h:Pm vs.length p):(byP vs p).length=vs.length:=by
 unfold byP;rw[p_,RD,h.size]
def KeptBut(a:g_)(h h':K_):Prop:=∀b o,b≠a->h.get? b=some o->h'.get? b=some o
theorem MM{a:g_}{e:Nat}{κ:SortKind}{lt:Nat->Nat->Bool}{P:PySem.Fin->c_->Prop}(ho:s.heap.get? a=some (S8 "list" vs.toArray e))(jO:vs.length < 64)(O:Ord lt)(kind:∀h' Q,KeptBut a s.heap h'->2<=vs.length->Q κ { s with heap:=h' }->m_ (l_ prog w) A (keyKind' vs.toArray) Q E { s with heap:=h' })(WW:∀h' i j C,KeptBut a s.heap h'->i < vs.length->j < vs.length->C (lt i j) { s with heap:=h' }->m_ (l_ prog w) A (keyLt' κ (vs.getD i b_.none) (vs.getD j b_.none)) C (λ_ _=>False) { s with heap:=h' })(fin:∀p h' c,Pm vs.length p->Up lt p vs.length->KeptBut a s.heap h'->h'.get? a=some (S8 "list" (byP vs p).toArray c)->P (.done (.ret .none)) { s with heap:=h' }):
  m_ (l_ prog w) A (RV.«list.sort» ⟨[.ref a],[]⟩) P E s:=by
 have line:64<=D_:=by rw[Rz];decide
 obtain⟨g1,l9⟩:∃g1,g1=s.heap.update a (TC λ_=>(#[]:Array b_)):=⟨_,rfl⟩;obtain⟨e1,o1⟩:∃e1,g1.get? a=some (S8 "list" #[] e1):=⟨_,by rw[l9];exact Vo ho _⟩;have k1:KeptBut a s.heap g1:=λb o ne x=>by rw[l9];exact(B_ _ _ (QW ne)).trans x
 obtain⟨g2,ma⟩:∃g2,g2=(g1.push (S8 "tuple" vs.toArray 0)).push (S8 "list" #[] 0):=⟨_,rfl⟩;have o2:g2.get? a=some (S8 "list" #[] e1):=by rw[ma];exact e_ _ (e_ _ o1)
 have k2:KeptBut a s.heap g2:=λb o ne x=>by rw[ma];exact e_ _ (e_ _ (k1 b o ne x))
 have kX:∀md,(2<=vs.length->md=κ)->m_ (l_ prog w) A ((if vs.toArray.size < 2 then pure () else sortRuns').run (SortSt.mk' md (vs.toArray.zip vs.toArray) #[] 7 none))
   (λr s'=>s'={ s with heap:=g2 }/\∃p,Pm vs.length p/\Up lt p vs.length/\(arrOf r.2).map (·.2)=(byP vs p).toArray/\failedOf r.2=none) E { s with heap:=g2 }:=λmd qU=>by
  rcases Ux vs.length 2 with fS | fT
  ·rw[if_pos (by rw[o_];exact fS)];refine d_ ⟨rfl,(RR vs.length).toArray,Array.Perm.refl _,λi j x y=>by omega,?_,rfl⟩;rw[M2];show((vs.toArray.zip vs.toArray).map (·.2))=_;refine Array.ext (by simp) λi h1 h2=>by simp
  ·rw[if_neg (by rw[o_];omega),qU fT];refine kat_run (ks:=vs) (vs:=vs) (G:=λp s'=>(Pm vs.length p/\Up lt p vs.length)/\s'={ s with heap:=g2 }) (Q:=λst s'=>s'={ s with heap:=g2 }/\∃p,Pm vs.length p/\Up lt p vs.length/\(arrOf st).map (·.2)=(byP vs p).toArray/\failedOf st=none) rfl fT jO ?_ ?_
   ·rintro p st s' hz mf aV ⟨⟨hp,up⟩,rfl⟩;exact⟨rfl,p,hp,up,kat_snds rfl mf,aV⟩
   ·exact zF (P:=λp=>Pm vs.length p/\Up lt p vs.length) (λi j C h1 h2 h3=>WW g2 i j C k2 h1 h2 h3) (λp hp=>⟨hp,rfl⟩) _ (Lb O fT)
 rw[list_sort_plain];refine a_ (listItems_at ho rfl (a_ (listUpdate_at ho rfl ?_ (by rw[o_];omega) (Rw _))));rw[←l9];refine a_ (seqEpoch_at o1 rfl (a_ (wpAny_newTuple (a_ (wpAny_newList (F_ ?_) (Rw _))) (by show vs.length<=_;omega))));show m_ (l_ prog w) A _ P E { s with heap:=(g1.push (S8 "tuple" vs.toArray 0)).push (S8 "list" #[] 0) };rw[←ma];dsimp only
 rcases Ux vs.length 2 with fS | fT
 all_goals
  first
   | (rw[if_pos (by rw[o_];exact fS)];refine a_ (d_ ?_);have step:=kX general' λh=>by omega)
   | (rw[if_neg (by rw[o_];omega)];refine a_ (kind g2 _ k2 fT ?_);have step:=kX κ λ_=>rfl)
  refine a_ (Q9 step (λr s' h=>?_) λ_ _ x=>x);obtain⟨rfl,p,hp,up,mf,aV⟩:=h;rw[mf,aV];refine a_ (seqEpoch_at o2 rfl (a_ (listUpdate_at o2 rfl ?_ (Rw _) ?_)))
  ·dsimp only;rw[bne_self_eq_false,if_neg i_];exact d_ (fin p _ _ hp up (λb o ne x=>(B_ _ _ (QW ne)).trans (k2 b o ne x)) (Vo o2 λ_=>(byP vs p).toArray))
  ·show(byP vs p).toArray.size<=_;rw[o_,JL hp];omega
theorem Cs{κ:SortKind}{lt:Nat->Nat->Bool}{Q:b_->c_->Prop}(jO:vs.length < 64)(O:Ord lt)(col:∀Q':List b_->c_->Prop,(∀h' tk,(∀b o,s.heap.get? b=some o->h'.get? b=some o)->s.heap.objs.size<=h'.objs.size->Q' vs { s with heap:=h',toks:=tk })->m_ (l_ prog w) A.in1 (Xf (.ref l)) Q' E s)(kind:∀h' tk Q,(∀b o,s.heap.get? b=some o->h'.get? b=some o)->2<=vs.length->Q κ { s with heap:=h',toks:=tk }->m_ (l_ prog w) A.in1.in1 (keyKind' vs.toArray) Q (λ_ _=>False) { s with heap:=h',toks:=tk })(WW:∀h' tk i j C,(∀b o,s.heap.get? b=some o->h'.get? b=some o)->i < vs.length->j < vs.length->C (lt i j) { s with heap:=h',toks:=tk }->m_ (l_ prog w) A.in1.in1 (keyLt' κ (vs.getD i b_.none) (vs.getD j b_.none)) C (λ_ _=>False) { s with heap:=h',toks:=tk })(fin:∀p h' tk D c,Pm vs.length p->Up lt p vs.length->(∀b o,s.heap.get? b=some o->h'.get? b=some o)->s.heap.objs.size<=D->h'.get? D=some (S8 "list" (byP vs p).toArray c)->Q (.ref D) { s with heap:=h',toks:=tk }):
  m_ (l_ prog w) A (call (.builtin "sorted") [b_.ref l]) Q E s:=by
 have line:64<=D_:=by rw[Rz];decide
 refine Calls.call_function_entry kind_sorted plain_sorted entry_sorted (args_sorted1 _) ?_;refine a_ (m:=checkCount "sorted" 1 1 _) (d_ (a_ (col _ λg tk kg above=>a_ (wpAny_newList ?_ (by omega)))));have bj:(g.push (S8 "list" vs.toArray 0)).get? g.objs.size=some (S8 "list" vs.toArray 0):=r_ _ rfl
 have old:∀(h':K_),KeptBut g.objs.size (g.push (S8 "list" vs.toArray 0)) h'->∀b o,s.heap.get? b=some o->h'.get? b=some o:=λh' k b o x =>
  k b o (H_ (G_ (w_ x) above)) (e_ _ (kg b o x))
 refine a_ (F_ (Rv PyProof.Rows.slot_list_sort ⟨_,bj,rfl⟩ PyProof.Rows.entry_list_sort ?_ (args_list_sort _)));refine MM (s:={ s with heap:=g.push (S8 "list" vs.toArray 0),toks:=tk }) (lt:=lt) (κ:=κ) bj jO O (λh' Q' k two q=>Q9 (kind h' tk Q' (old h' k) two q) (λ_ _ x=>x) λ_ _ x=>x.elim) (λh' i j C k=>WW h' tk i j C (old h' k)) λp h' c hp up k here=>?_
 exact⟨_,rfl,d_ ⟨_,rfl,fin p h' tk _ c hp up (old h' k) above here⟩⟩
end
end DL
namespace DL
open PySem PySem.W PySem.Spec PyProof.Rows L2
noncomputable def rk:D->Nat
 | .non=>0
 | .bl _=>1
 | .int _=>2
 | .str _=>3
 | .tup _=>4
 | .lst _=>5
 | .exc _ _=>6
noncomputable def cI(a b:Int):Ordering:=if a < b then .lt else if b < a then .gt else .eq
mutual
noncomputable def cO:D->D->Ordering
 | .int a,.int b=>cI a b
 | .tup xs,.tup ys=>cOA xs ys
 | a,b=>cI (rk a) (rk b)
noncomputable def cOA:List D->List D->Ordering
 | [],[]=>.eq
 | [],_::_=>.lt
 | _::_,[]=>.gt
 | x::xs,y::ys=>(cO x y).then (cOA xs ys)
end
theorem w6(a b:Int):cI b a=(cI a b).swap:=by
 unfold cI;by_cases h1:a < b
 ·rw[if_pos h1,if_neg (by omega),if_pos h1];rfl
 ·by_cases h2:b < a
  ·rw[if_pos h2,if_neg h1,if_pos h2];rfl
  ·rw[if_neg h2,if_neg h1,if_neg h1,if_neg h2];rfl
theorem EH{a b:D}(h:rk a≠rk b):cO a b=cI (rk a) (rk b):=by
 cases a<;>cases b<;>first | rfl | (exact absurd rfl h) | (simp[cO];done)
mutual
theorem BH:∀a b:D,cO b a=(cO a b).swap
 | .int a,b=>by
  cases b<;>simp only[cO]<;>exact w6 _ _
 | .tup xs,b=>by
  cases b<;>simp only[cO]<;>first | exact w6 _ _ | exact Fm _ _
 | .non,b=>by cases b<;>simp only[cO]<;>exact w6 _ _
 | .bl _,b=>by cases b<;>simp only[cO]<;>exact w6 _ _
 | .str _,b=>by cases b<;>simp only[cO]<;>exact w6 _ _
 | .lst _,b=>by cases b<;>simp only[cO]<;>exact w6 _ _
 | .exc _ _,b=>by cases b<;>simp only[cO]<;>exact w6 _ _
theorem Fm:∀xs ys:List D,cOA ys xs=(cOA xs ys).swap
 | [],[]=>by simp[cOA]
 | [],_::_=>by simp[cOA]
 | _::_,[]=>by simp[cOA]
 | x::xs,y::ys=>by
  rw[cOA,cOA,BH x y,Fm xs ys];cases cO x y<;>rfl
end
noncomputable def dl(a b:D):Bool:=cO a b == .lt
noncomputable def dlA(xs ys:List D):Bool:=cOA xs ys == .lt
theorem AF(a b:Int):(cI a b == Ordering.lt)=decide (a < b):=by
 unfold cI;by_cases h1:a < b
 ·rw[if_pos h1];simp[h1]
 ·rw[if_neg h1];split<;>simp[h1]
theorem xg{a b:Int}:dl (.int a) (.int b)=decide (a < b):=by
 unfold dl;rw[cO,AF]
theorem yO{xs:List D}:dl (.tup xs) (.tup ys)=dlA xs ys:=by
 unfold dl dlA;rw[cO]
theorem y8:dlA [] []=false:=by unfold dlA;simp[cOA]
theorem xR{y:D}:dlA [] (y::ys)=true:=by unfold dlA;simp[cOA]
theorem yc{y:D}:dlA (y::ys) []=false:=by unfold dlA;simp[cOA]
theorem yF{x y:D}{xs:List D}:dlA (x::xs) (y::ys)=(dl x y||(!dl y x&&dlA xs ys)):=by
 unfold dlA dl;rw[cOA,BH x y];cases cO x y<;>simp[Ordering.then,Ordering.swap]
theorem FJ{a b:D}(h:rk a < rk b):dl a b=true:=by
 unfold dl;rw[EH (H_ h),AF];simp;omega
theorem HN{a b:D}(h:rk b < rk a):dl a b=false:=by
 unfold dl;rw[EH (Tg h),AF];simp;omega
theorem yE{a b:D}(h:rk a=rk b)(h1:rk a≠2)(h2:rk a≠4):dl a b=false:=by
 unfold dl;cases a<;>cases b<;>first | (simp[rk] at h;done) | (exact absurd rfl h1) | (exact absurd rfl h2) | (simp[cO,cI,rk];done)
mutual
theorem xY:∀a b c:D,dl b a=false->dl c b=false->dl c a=false:=λa b c h1 h2=>by
 have r1:rk a<=rk b:=UY λh=>by rw[FJ h] at h1;cases h1
 have r2:rk b<=rk c:=UY λh=>by rw[FJ h] at h2;cases h2
 rcases Ux (rk a) (rk c) with h | h
 ·exact HN h
 ·have e1:rk b=rk a:=by omega
  have e2:rk c=rk a:=by omega
  match a,b,c with
  | .int a,.int b,.int c =>
   rw[xg] at h1 h2 ⊢;simp at h1 h2 ⊢;omega
  | .tup xs,.tup ys,.tup zs =>
   rw[yO] at h1 h2 ⊢;exact Dq xs ys zs h1 h2
  | .non,_,_=>exact yE e2 (by rw[e2];decide) (by rw[e2];decide)
  | .bl _,_,_=>exact yE e2 (by rw[e2];simp[rk]) (by rw[e2];simp[rk])
  | .str _,_,_=>exact yE e2 (by rw[e2];simp[rk]) (by rw[e2];simp[rk])
  | .lst _,_,_=>exact yE e2 (by rw[e2];simp[rk]) (by rw[e2];simp[rk])
  | .exc _ _,_,_=>exact yE e2 (by rw[e2];simp[rk]) (by rw[e2];simp[rk])
termination_by a b c=>sizeOf a+sizeOf b+sizeOf c
decreasing_by all_goals (simp_wf;omega)
theorem Dq:∀xs ys zs:List D,dlA ys xs=false->dlA zs ys=false->dlA zs xs=false
 | [],_,[],_,_=>y8
 | [],_,z::zs,_,_=>yc
 | x::xs,[],_,h1,_=>by rw[xR] at h1;cases h1
 | x::xs,y::ys,[],_,h2=>by rw[xR] at h2;cases h2
 | x::xs,y::ys,z::zs,h1,h2=>by
  simp only[yF,Bool.or_eq_false_iff,Bool.and_eq_false_iff,Bool.not_eq_false'] at h1 h2 ⊢;obtain⟨a1,a2⟩:=h1;obtain⟨b1,b2⟩:=h2;refine⟨xY x y z a1 b1,?_⟩;cases hx:dl x z with
  | true=>exact .inl rfl
  | false =>
   right
   rcases a2 with a2 | a2
   ·have:=xY y z x b1 hx;rw[a2] at this;cases this
   ·rcases b2 with b2 | b2
    ·have:=xY z x y hx a1;rw[b2] at this;cases this
    ·exact Dq xs ys zs a2 b2
termination_by xs ys zs=>sizeOf xs+sizeOf ys+sizeOf zs
decreasing_by all_goals (simp_wf;omega)
end
theorem DB(a b:D)(h:dl a b=true):dl b a=false:=by
 unfold dl at h ⊢;rw[BH a b];cases e:cO a b<;>rw[e] at h<;>first | rfl | (cases h;done)
theorem AU(ds:List D):Ord λi j=>dl (ds.getD i .non) (ds.getD j .non):=⟨λa b h=>DB _ _ h,λa b c h1 h2=>xY _ _ _ h1 h2⟩
mutual
noncomputable def cmB:D->D->Bool
 | .int _,.int _=>true
 | .tup xs,.tup ys=>cmA xs ys
 | _,_=>false
noncomputable def cmA:List D->List D->Bool
 | x::xs,y::ys=>cmB x y&&cmA xs ys
 | _,_=>true
end
mutual
theorem yI:∀a b:D,cmB a b=true->deq a b=(!dl a b&&!dl b a)
 | .int a,.int b,_=>by
  rw[xg,xg];by_cases h:a=b
  ·simp[deq,h]
  ·rcases Int.lt_or_gt_of_ne h with h' | h'
   ·simp[deq,h,h']
   ·simp[deq,h,h']
 | .tup xs,.tup ys,h=>by
  rw[cmB] at h;rw[deq,yO,yO];exact Gf xs ys h
 | .non,_,h=>by simp[cmB] at h
 | .bl _,_,h=>by simp[cmB] at h
 | .str _,_,h=>by simp[cmB] at h
 | .lst _,_,h=>by simp[cmB] at h
 | .exc _ _,_,h=>by simp[cmB] at h
 | .int _,.exc _ _,h=>by simp[cmB] at h
 | .tup _,.exc _ _,h=>by simp[cmB] at h
 | .int _,.non,h=>by simp[cmB] at h
 | .int _,.bl _,h=>by simp[cmB] at h
 | .int _,.str _,h=>by simp[cmB] at h
 | .int _,.tup _,h=>by simp[cmB] at h
 | .int _,.lst _,h=>by simp[cmB] at h
 | .tup _,.non,h=>by simp[cmB] at h
 | .tup _,.bl _,h=>by simp[cmB] at h
 | .tup _,.str _,h=>by simp[cmB] at h
 | .tup _,.int _,h=>by simp[cmB] at h
 | .tup _,.lst _,h=>by simp[cmB] at h
theorem Gf:∀xs ys:List D,cmA xs ys=true->deqA xs ys=(!dlA xs ys&&!dlA ys xs)
 | [],[],_=>by simp[deqA,y8]
 | [],_::_,_=>by simp[deqA,xR,yc]
 | _::_,[],_=>by simp[deqA,xR,yc]
 | x::xs,y::ys,h=>by
  rw[cmA,I_] at h;rw[deqA,yI x y h.1,Gf xs ys h.2,yF,yF];cases h1:dl x y<;>cases h2:dl y x<;>simp
end
mutual
theorem zp:∀a b:D,cmB a b=true->deq a b=true->a=b
 | .int a,.int b,_,h=>by simp[deq] at h;rw[h]
 | .tup xs,.tup ys,c,h=>by
  rw[cmB] at c;rw[deq] at h;rw[Em xs ys c h]
 | .non,_,h,_=>by simp[cmB] at h
 | .bl _,_,h,_=>by simp[cmB] at h
 | .str _,_,h,_=>by simp[cmB] at h
 | .lst _,_,h,_=>by simp[cmB] at h
 | .exc _ _,_,h,_=>by simp[cmB] at h
 | .int _,.exc _ _,h,_=>by simp[cmB] at h
 | .tup _,.exc _ _,h,_=>by simp[cmB] at h
 | .int _,.non,h,_=>by simp[cmB] at h
 | .int _,.bl _,h,_=>by simp[cmB] at h
 | .int _,.str _,h,_=>by simp[cmB] at h
 | .int _,.tup _,h,_=>by simp[cmB] at h
 | .int _,.lst _,h,_=>by simp[cmB] at h
 | .tup _,.non,h,_=>by simp[cmB] at h
 | .tup _,.bl _,h,_=>by simp[cmB] at h
 | .tup _,.str _,h,_=>by simp[cmB] at h
 | .tup _,.int _,h,_=>by simp[cmB] at h
 | .tup _,.lst _,h,_=>by simp[cmB] at h
theorem Em:∀xs ys:List D,cmA xs ys=true->deqA xs ys=true->xs=ys
 | [],[],_,_=>rfl
 | [],_::_,_,h=>by simp[deqA] at h
 | _::_,[],_,h=>by simp[deqA] at h
 | x::xs,y::ys,c,h=>by
  rw[cmA,I_] at c;rw[deqA,I_] at h;rw[zp x y c.1 h.1,Em xs ys c.2 h.2]
end
open PySem.SeqAt in
theorem DQ(e lt:Nat->Bool)(d:Bool)(f:Nat->Nat):∀l:List Nat,ltFrom e lt d (l.map f)=ltFrom (λi=>e (f i)) (λi=>lt (f i)) d l
 | []=>rfl
 | i::l=>by rw[Q7,ltFrom,ltFrom,DQ e lt d f l]
open PySem.SeqAt in
theorem GM:∀xs ys:List D,cmA xs ys=true->ltFrom (λj=>deq (xs.getD j .non) (ys.getD j .non)) (λj=>dl (xs.getD j .non) (ys.getD j .non)) (decide (xs.length < ys.length)) (RR (min xs.length ys.length))=dlA xs ys
 | [],[],_=>by simp[ltFrom,y8]
 | [],_::_,_=>by simp[ltFrom,xR]
 | _::_,[],_=>by simp[ltFrom,yc]
 | x::xs,y::ys,c=>by
  rw[cmA,I_] at c;have ih:=GM xs ys c.2;rw[Rp,Rp,Nat.succ_min_succ,So,ltFrom,DQ,yF]
  have e:ltFrom (λi=>deq ((x::xs).getD i.succ .non) ((y::ys).getD i.succ .non)) (λi=>dl ((x::xs).getD i.succ .non) ((y::ys).getD i.succ .non)) (decide (xs.length+1 < ys.length+1)) (RR (min xs.length ys.length))=dlA xs ys:=by
   rw[←ih]
   congr 1
   simp
  rw[e];show(if deq x y=true then dlA xs ys else dl x y)=_;rw[yI x y c.1];cases h1:dl x y<;>cases h2:dl y x<;>simp
theorem EL:∀(xs ys:List D),cmA xs ys=true->∀j,j < xs.length->j < ys.length->cmB (xs.getD j .non) (ys.getD j .non)=true
 | [],_,_,j,h,_=>by simp at h
 | _::_,[],_,j,_,h=>by simp at h
 | x::xs,y::ys,c,j,h1,h2=>by
  rw[cmA,I_] at c;cases j with
  | zero=>exact c.1
  | succ j=>exact EL xs ys c.2 j (by simpa using h1) (by simpa using h2)
section
variable{H:Hp}{s:c_}
open PySem.SeqAt in
theorem Ju(I:Inv X aa U H s):∀(n:Nat) (A:Rh),A.units+n < Sa->n < 900->∀(a b:D) (x y:V) (u v:b_),(dep a<=n/\dep b<=n)->cmB a b=true->Is X.K H a x->Is X.K H b y->RelV x u->RelV y v->RcLtAt A s u v (dl a b):=by
 intro n
 induction n with
 | zero =>
  intro A hu hn a b x y u v hd c ha hb ru rv;cases a<;>cases b<;>simp[cmB] at c
  ·rename_i i j;rw[uZ ha] at ru;rw[uZ hb] at rv;obtain⟨t1,rfl⟩:=ru;obtain⟨t2,rfl⟩:=rv;rw[xg];exact RcLtAt.int_int _ _ _ _
  ·rw[dep] at hd;omega
 | succ n ih =>
  intro A hu hn a b x y u v hd c ha hb ru rv;cases a<;>cases b<;>simp[cmB] at c
  ·rename_i i j;rw[uZ ha] at ru;rw[uZ hb] at rv;obtain⟨t1,rfl⟩:=ru;obtain⟨t2,rfl⟩:=rv;rw[xg];exact RcLtAt.int_int _ _ _ _
  ·rename_i ds es;have fO:A.in1.units+n < Sa:=by show A.units+1+n < Sa;omega
   obtain⟨p,xs,rfl,h1,h2⟩:=u7 ha;obtain⟨q,ys,rfl,h3,h4⟩:=u7 hb;cases ru;cases rv;obtain⟨ac,r1,t1,_⟩:=I.tuple h1;obtain⟨bF,r2,t2,_⟩:=I.tuple h3;have l1:ac.toArray.size=ds.length:=by rw[o_,←r1.length,h2.length]
   have l2:bF.toArray.size=es.length:=by rw[o_,←r2.length,h4.length]
   have two:∀j (g1:j < ac.toArray.size) (g2:j < bF.toArray.size),WJ A.in1 s ac.toArray[j] bF.toArray[j] (deq (ds.getD j .non) (es.getD j .non))/\(deq (ds.getD j .non) (es.getD j .non)=false->RcLtAt A.in1 s ac.toArray[j] bF.toArray[j] (dl (ds.getD j .non) (es.getD j .non))):=λj g1 g2=>by
    obtain⟨v1,q1,q2⟩:=h2.getU r1 g1;obtain⟨v2,q3,q4⟩:=h4.getU r2 g2
    have m1:ds.getD j .non∈ds:=by
     rw[j_,h_ (by omega)];exact RB _
    have m2:es.getD j .non∈es:=by
     rw[j_,h_ (by omega)];exact RB _
    have k1:=vy m1;have k2:=vy m2;rw[dep,dep] at hd;exact⟨(xy I n A.in1 fO (by omega) _ _ _ _ _ _ (by omega) q2 q4 q1 q3).2.1,λ_=>ih A.in1 fO (by omega) _ _ _ _ _ _ (by omega) (EL ds es c j (by omega) (by omega)) q2 q4 q1 q3⟩
   have R1:=RcLtAt.tuples (A:=A) t1 t2 (by omega) two;rw[l1,l2,GM ds es c] at R1;rw[yO];exact R1
end
end DL
namespace DL
open PySem PySem.W PySem.Spec PyProof.Rows L2
noncomputable def leD(a b:D):Bool:=!dl b a
noncomputable def sortD(ds:List D):List D:=ds.mergeSort leD
theorem JT(a b c:D)(h1:leD a b=true)(h2:leD b c=true):leD a c=true:=by
 unfold leD at *;simp only[Uh] at *;exact xY a b c h1 h2
theorem OP(a b:D):(leD a b||leD b a)=true:=by
 unfold leD;cases h:dl b a with
 | false=>rfl
 | true=>rw[DB b a h];rfl
theorem xG(ds:List D):(sortD ds).Perm ds:=List.mergeSort_perm ds leD
theorem AI(ds:List D):(sortD ds).Pairwise λa b=>leD a b=true:=List.pairwise_mergeSort JT OP ds
theorem CH:∀(l m:List D),l.Perm m->(l.Pairwise λa b=>leD a b=true)->(m.Pairwise λa b=>leD a b=true)->(∀a∈l,∀b∈l,leD a b=true->leD b a=true->a=b)->l=m
 | [],m,p,_,_,_=>by rw[List.nil_perm.mp p]
 | a::l,[],p,_,_,_=>by have:=p.length_eq;simp at this
 | a::l,b::m,p,h1,h2,an=>by
  have e:a=b:=by
   have ia:a∈b::m:=p.mem_iff.mp v_;have ib:b∈a::l:=p.mem_iff.mpr v_
   rcases A_.mp ia with h | h
   ·exact h
   ·rcases A_.mp ib with h' | h'
    ·exact h'.symm
    ·exact an a v_ b ib ((UR.mp h1).1 b h') ((UR.mp h2).1 a h)
  subst e;rw[CH l m ((List.perm_cons a).mp p) (UR.mp h1).2 (UR.mp h2).2 λx hx y hy=>an x (s_ _ hx) y (s_ _ hy)]
noncomputable def permD(p:Array Nat)(ds:List D):List D:=p.toList.map λi=>ds.getD i .non
noncomputable def permV(p:Array Nat)(zs:List V):List V:=p.toList.map λi=>zs.getD i .non
noncomputable def cmAll(ds:List D):Bool:=ds.all λa=>ds.all λb=>cmB a b
theorem Mp{p:Array Nat}(hp:Pm ds.length p)(up:Up (λi j=>dl (ds.getD i .non) (ds.getD j .non)) p ds.length)(cm:cmAll ds=true):permD p ds=sortD ds:=by
 have pm:(permD p ds).Perm ds:=by
  have h1:p.toList.Perm (RR ds.length):=by
   have:=SK.mp hp;simpa using this
  have h2:=h1.map λi=>ds.getD i .non
  have h3:((RR ds.length).map λi=>ds.getD i .non)=ds:=by
   refine List.ext_getElem (by simp) λi h1 h2=>?_
   simp[h2]
  rw[h3] at h2;exact h2
 have jP:∀a∈permD p ds,∀b∈permD p ds,cmB a b=true:=λa ha b hb=>by
  have:=t_.mp cm a (pm.mem_iff.mp ha);exact t_.mp this b (pm.mem_iff.mp hb)
 refine CH _ _ (pm.trans (xG ds).symm) ?_ (AI ds) λa ha b hb h1 h2=>?_
 ·rw[UA];intro i j hi hj eh;unfold permD at hi hj ⊢;rw[p_,RD,hp.size] at hi hj;have:=up i j eh hj;simp only[UG,VH];unfold gt at this;rw[Xk,dif_pos (by rw[hp.size];exact hj),Xk,dif_pos (by rw[hp.size];exact hi)] at this;unfold leD;rw[Uh];exact this
 ·have c:=jP a ha b hb;refine zp a b c ?_;rw[yI a b c];unfold leD at h1 h2;rw[h1,h2];rfl
section
variable{H:Hp}{s:c_}
noncomputable def fstI:D->Bool
 | .tup (.int _::_)=>true
 | _=>false
noncomputable def fstT:D->Bool
 | .tup (.tup _::_)=>true
 | _=>false
noncomputable def isInt:D->Bool
 | .int _=>true
 | _=>false
theorem Fj(I:Inv X aa U H s){prog:u_}{w:C_}{n:Nat}{b fin:Bool}{Q:Bool->c_->Prop}(hu:A.units+n < Sa)(hn:n < 900):∀(ds es:List D) (xs ys:List V) (us vs:List b_) (i:Nat),IsA X.K H ds xs->IsA X.K H es ys->Vals xs us->Vals ys vs →
  (depA ds<=n/\depA es<=n)->cmA ds es=true->fin=decide (ds.length < es.length)->(b=true->i=0->∀d e r r',ds=d::r->es=e::r'->isInt d=true/\isInt e=true)->Q (dlA ds es) s->KatLex prog w A b fin Q (us.zip vs) i s
 | [],es,xs,ys,us,vs,i,h1,h2,h3,h4,hd,c,hf,fl,q=>by
  have:=h1.nil_inv;subst this;cases h3;rw[List.zip_nil_left];refine kat_nil ?_;rw[hf];cases es with
  | nil=>rw[y8] at q;exact q
  | cons e es=>rw[xR] at q;simpa using q
 | d::ds,[],xs,ys,us,vs,i,h1,h2,h3,h4,hd,c,hf,fl,q=>by
  have:=h2.nil_inv;subst this;cases h4;rw[List.zip_nil_right];refine kat_nil ?_;rw[hf];rw[yc] at q;simpa using q
 | d::ds,e::es,xs,ys,us,vs,i,h1,h2,h3,h4,hd,c,hf,fl,q=>by
  obtain⟨x,xr,rfl,a1,a2⟩:=h1.cons_inv;obtain⟨y,yr,rfl,b1,b2⟩:=h2.cons_inv;cases h3 with
  | cons r1 r2 =>
   cases h4 with
   | cons s1 s2 =>
    rename_i u qV v fq;rw[depA,depA] at hd;rw[cmA,I_] at c;rw[yF] at q;have eq:=(xy I n A hu hn d e x y u v (by omega) a1 b1 r1 s1).2.1;have lt:=Ju I n A hu hn d e x y u v (by omega) c.1 a1 b1 r1 s1;have ed:=yI d e c.1;rw[Sy];refine kat_cons (eq prog w _ _ (kat_go (λh=>kat_yes ?_) λh=>kat_no ?_))
    ·refine Fj I hu hn ds es xr yr qV fq (i+1) a2 b2 r2 s2 (by omega) c.2 (by rw[hf];simp) (λ_ z=>by omega) ?_;rw[h] at ed;have ed:=ed.symm;simp only[I_,Uh] at ed;rw[ed.1,ed.2] at q;simpa using q
    ·have q':Q (dl d e) s:=by
      rw[h] at ed;cases h1:dl d e with
      | true=>rw[h1] at q;simpa using q
      | false =>
       rw[h1] at ed q;cases h2:dl e d with
       | true=>rw[h2] at q;simpa using q
       | false=>rw[h2] at ed;cases ed
     by_cases z:b=true/\i=0
     ·obtain⟨zb,zi⟩:=z;obtain⟨f1,f2⟩:=fl zb zi d e ds es rfl rfl;subst zb;subst zi;cases d<;>simp[isInt] at f1
      cases e<;>simp[isInt] at f2
      rw[uZ a1] at r1;rw[uZ b1] at s1;obtain⟨t1,rfl⟩:=r1;obtain⟨t2,rfl⟩:=s1;show m_ _ _ (oneLt' true _ _) _ _ _;rw[←keyLt'_oneType];rw[xg] at q';exact kat_lt_int q'
     ·have:(b&&i == 0)=false:=by
       cases b
       ·rfl
       ·simp at z ⊢;exact z
      rw[this];exact kat_one _ _ (lt prog w _ _ q')
theorem at_k(h:IsA X.K H ds zs)(r:Vals zs vs){k:Nat}(hk:k < vs.length):∃x,Is X.K H (ds.getD k .non) x/\RelV x (vs.getD k .none)/\ds.getD k .non∈ds/\zs[k]?=some x:=by
 have l1:=h.length;have l2:=r.length;have mh:k < ds.length:=by omega
 obtain⟨x,e1,e2⟩:=h.get (h_ mh);obtain⟨u,e3,e4⟩:=r.get e1;refine⟨x,?_,?_,?_,e1⟩
 ·rw[j_,h_ mh];exact e2
 ·rw[j_,e3];exact e4
 ·rw[j_,h_ mh];exact RB _
theorem CF(I:Inv X aa U H s)(prog:u_)(w:C_)(P:D->Bool)(T:b_)(hP:∀d,P d=true->∃f r,d=.tup (f::r)/\∀x u,Is X.K H f x->RelV x u->Tl (l_ prog w) s.heap (VA u) T):
  ∀(ds:List D) (zs:List V) (vs:List b_),IsA X.K H ds zs->Vals zs vs->ds.all P=true->∃fs,KatTups s.heap vs fs/\fs.length=vs.length/\∀v∈fs,Tl (l_ prog w) s.heap (VA v) T
 | [],zs,vs,h,r,_=>by
  have:=h.nil_inv;subst this;cases r;exact⟨[],KatTups.nil,rfl,λv hv=>nomatch hv⟩
 | d::ds,zs,vs,h,r,ok=>by
  obtain⟨x,zr,rfl,h1,h2⟩:=h.cons_inv;rw[Sd,I_] at ok;cases r with
  | cons r1 r2 =>
   obtain⟨fs,k1,k2,k3⟩:=CF I prog w P T hP ds zr _ h2 r2 ok.2;obtain⟨f,aA,rfl,look⟩:=hP d ok.1;obtain⟨a,ys,rfl,g1,g2⟩:=u7 h1;cases r1;obtain⟨ac,q1,q2,_⟩:=I.tuple g1;obtain⟨y,yr,rfl,g3,g4⟩:=g2.cons_inv;cases q1 with
   | cons q3 q4 =>
    obtain⟨o,e1,e2,n,e3⟩:=q2;refine⟨_::fs,KatTups.cons e1 e2 e3 rfl k1,by simp[k2],λv hv=>?_⟩
    rcases A_.mp hv with rfl | hv
    ·exact look y _ g3 q3
    ·exact k3 v hv
def SortOk(ds:List D):Prop:=ds.length < 64/\cmAll ds=true/\depA ds<=50/\(ds.all isInt=true\/ds.all fstI=true\/ds.all fstT=true)
theorem GR(hu:X.A.units+100 < Sa){Q:VK}(I:Inv X aa U H s)(ha:IsA X.K H ds zs)(rv:Vals zs ac)(ok:SortOk ds)(col:∀Q':List b_->c_->Prop,(∀h' tk,(∀b o,s.heap.get? b=some o->h'.get? b=some o)->s.heap.objs.size<=h'.objs.size->Q' ac { s with heap:=h',toks:=tk })->m_ (l_ X.prog X.w) X.A.in1 (Xf (.ref l)) Q' X.xe s)(k:∀l q,Pm ds.length q->permD q ds=sortD ds->H l=none->Q (.ref l) (upd H l (.lst (permV q zs)))):m_ (l_ X.prog X.w) X.A (call (.builtin "sorted") [.ref l]) (EP X aa U Q) X.xe s:=by
 obtain⟨jO,cm,dp,kd⟩:=ok;have l1:=ha.length;have l2:=rv.length;have n1:ac.length=ds.length:=by omega
 have oA:∀i j,i < ac.length->j < ac.length->cmB (ds.getD i .non) (ds.getD j .non)=true:=λi j hi hj=>by
  obtain⟨_,_,_,mi,_⟩:=at_k ha rv hi;obtain⟨_,_,_,mj,_⟩:=at_k ha rv hj;exact t_.mp (t_.mp cm _ mi) _ mj
 have out:∀q h' tk D c,Pm ac.length q->Up (λi j=>dl (ds.getD i .non) (ds.getD j .non)) q ac.length->(∀b o,s.heap.get? b=some o->h'.get? b=some o)->s.heap.objs.size<=D->h'.get? D=some (S8 "list" (byP ac q).toArray c)->EP X aa U Q (.ref D) { s with heap:=h',toks:=tk }:=λq h' tk D c hp up keep above here=>by
  rw[n1] at hp up
  have hv:Vals (permV q zs) (byP ac q):=by
   refine Co (by simp[permV,byP]) λi x u e1 e2=>?_
   obtain⟨j,f1,rfl⟩:=getMap e1;obtain⟨j',f2,rfl⟩:=getMap e2;rw[f1] at f2;cases f2
   have hj:j < ds.length:=by
    have h1:j∈q.toList:=Rg f1;have h2:=(SK.mp hp).mem_iff.mp h1;simpa using h2
   obtain⟨x,_,e4,_,e5⟩:=at_k ha rv (k:=j) (by omega);rw[j_,e5];exact e4
  refine⟨.ref D,_,I.laid (t':=tk) keep above (o:=.lst (permV q zs)) ⟨?_,byP ac q,c,hv,here⟩,rfl,k D q hp (Mp hp up cm) (I.hok.fresh above)⟩;show(permV q zs).length<=D_;rw[permV,p_,RD,hp.size,Rz];omega
 have iR:∀(b:Bool) (P:D->Bool),(∀d,P d=true->∃f r,d=.tup (f::r)/\(b=true->isInt f=true))->ds.all P=true->∀h' tk i j C,(∀b o,s.heap.get? b=some o->h'.get? b=some o)->i < ac.length->j < ac.length->C (dl (ds.getD i .non) (ds.getD j .non)) { s with heap:=h',toks:=tk } →
   m_ (l_ X.prog X.w) X.A.in1.in1 (keyLt' (tuples' b) (ac.getD i b_.none) (ac.getD j b_.none)) C (λ_ _=>False) { s with heap:=h',toks:=tk }:=λb P hP all h' tk i j C keep hi hj hc=>by
  have I':Inv X aa U H { s with heap:=h',toks:=tk }:=I.kept (t':=tk) keep;obtain⟨x,a1,a2,a3,_⟩:=at_k ha rv hi;obtain⟨y,b1,b2,b3,_⟩:=at_k ha rv hj;have cc:=oA i j hi hj;have dq:=vy a3;have oB:=vy b3;obtain⟨f1,r1,e1,g1⟩:=hP _ (t_.mp all _ a3);obtain⟨f2,r2,e2,g2⟩:=hP _ (t_.mp all _ b3);rw[e1] at a1 cc hc dq;rw[e2] at b1 cc hc oB;obtain⟨pa,xs,rfl,x1,x2⟩:=u7 a1;obtain⟨pb,ys,rfl,y1,y2⟩:=u7 b1;generalize ac.getD i b_.none=ui at a2;generalize ac.getD j b_.none=uj at b2;cases a2;cases b2;obtain⟨us,q1,q2,_⟩:=I'.tuple x1;obtain⟨vs,q3,q4,_⟩:=I'.tuple y1;obtain⟨oa,m1,m2,na,m3⟩:=q2;obtain⟨ob,m4,m5,nb,m6⟩:=q4;rw[yO] at hc;rw[cmB] at cc;rw[dep] at dq oB;refine kat_lt m1 m3 m4 m6 (Fj I' (n:=50) (by show X.A.units+1+1+50 < Sa;omega) (by decide) _ _ xs ys _ _ 0 x2 y2 q1 q3 (by omega) cc ?_ (λzb _ d e rr uf z1 z2=>?_) hc)
  ·have:=x2.length;have:=y2.length;have:=q1.length;have:=q3.length;simp only[o_]
   congr 1
   apply propext
   constructor<;>intro _<;>omega
  ·cases z1;cases z2;exact⟨g1 zb,g2 zb⟩
 rcases kd with kd | kd | kd
 ·-- bX numbers
  have ml:∀k,k < ac.length->∃i t,ac.getD k b_.none=.int i t/\ds.getD k .non=.int i:=λk hk=>by
   obtain⟨x,a1,a2,a3,_⟩:=at_k ha rv hk;have:=t_.mp kd _ a3;cases e:ds.getD k .non<;>rw[e] at this a1<;>simp[isInt] at this
   rw[uZ a1] at a2;obtain⟨t,a2⟩:=a2;exact⟨_,t,a2,rfl⟩
  refine Cs (κ:=oneType') (lt:=λi j=>dl (ds.getD i .non) (ds.getD j .non)) (by omega) (AU ds) col (λh' tk Q' keep two q=>?_) (λh' tk i j C keep hi hj hc=>?_) out
  ·refine kas_kind (T:=.type "int") two (λv hv=>?_) (by decide) (by decide) q;obtain⟨k,hk,rfl⟩:=Uy hv;obtain⟨i,t,e,_⟩:=ml k hk;rw[j_,h_ hk] at e
   change ac[k]=_ at e
   rw[e];exact Tl.now
  ·obtain⟨a,t1,e1,f1⟩:=ml i hi;obtain⟨b,t2,e2,f2⟩:=ml j hj;rw[f1,f2,xg] at hc;rw[e1,e2];exact kat_lt_int hc
 ·-- tuples that begin with a bX number
  refine Cs (κ:=tuples' true) (lt:=λi j=>dl (ds.getD i .non) (ds.getD j .non)) (by omega) (AU ds) col (λh' tk Q' keep two q=>?_) (λh' tk i j C keep hi hj hc=>iR true fstI (λd hd=>?_) kd h' tk i j C keep hi hj hc) out
  ·have I':Inv X aa U H { s with heap:=h',toks:=tk }:=I.kept (t':=tk) keep
   obtain⟨fs,k1,k2,k3⟩:=CF I' X.prog X.w fstI (.type "int") (λd hd=>by
    unfold fstI at hd;split at hd
    ·refine⟨_,_,rfl,λx u hx hr=>?_⟩;rw[uZ hx] at hr;obtain⟨t,rfl⟩:=hr;exact Tl.now
    ·cases hd) ds zs ac ha rv kd
   exact kat_kind k1 (by omega) k3 (by decide) q
  ·unfold fstI at hd;split at hd
   ·exact⟨_,_,rfl,λ_=>rfl⟩
   ·cases hd
 ·-- tuples that begin with a tuple
  refine Cs (κ:=tuples' false) (lt:=λi j=>dl (ds.getD i .non) (ds.getD j .non)) (by omega) (AU ds) col (λh' tk Q' keep two q=>?_) (λh' tk i j C keep hi hj hc=>iR false fstT (λd hd=>?_) kd h' tk i j C keep hi hj hc) out
  ·have I':Inv X aa U H { s with heap:=h',toks:=tk }:=I.kept (t':=tk) keep
   obtain⟨fs,k1,k2,k3⟩:=CF I' X.prog X.w fstT (.type "tuple") (λd hd=>by
    unfold fstT at hd;split at hd
    ·refine⟨_,_,rfl,λx u hx hr=>?_⟩;obtain⟨a,ys,rfl,g1,g2⟩:=u7 hx;cases hr;obtain⟨bF,q1,q2,_⟩:=I'.tuple g1;obtain⟨o,e1,e2,n,e3⟩:=q2;have look:Tl (l_ X.prog X.w) h' (VA (.ref a)) o.cls:=(Tl.ld e1).andThen .now;rw[e2] at look;exact look
    ·cases hd) ds zs ac ha rv kd
   exact kat_kind k1 (by omega) k3 (by decide) q
  ·unfold fstT at hd;split at hd
   ·exact⟨_,_,rfl,λh=>by cases h⟩
   ·cases hd
theorem Ih(hu:X.A.units+100 < Sa):CallR X (.builtin "sorted") (λxs H Q=>∃(p:g_) (zs:List V) (ds:List D),xs=[.ref p]/\SqL X.K H p zs/\IsA X.K H ds zs/\SortOk ds/\∀l q,Pm ds.length q->permD q ds=sortD ds->H l=none->Q (.ref l) (upd H l (.lst (permV q zs)))):=by
 intro aa s U H xs us Q I r h;obtain⟨p,zs,ds,rfl,hq,ha,ok,k⟩:=h;obtain⟨u,rfl,ru⟩:=vals1 r;cases ru;obtain⟨ac,rv,t,hz⟩:=I.list hq;have l1:=ha.length;have l2:=rv.length;have line:64<=D_:=by rw[Rz];decide
 refine GR hu I ha rv ok (λQ' q=>collect_list t.isList (q _ s.toks (λb o x=>?_) ?_) (by have:=ok.1;omega)) k
 ·exact(B_ _ _ (QW (H_ (w_ x)))).trans (e_ _ x)
 ·rw[K_.size_update,size_push'];exact Vg _
end
section
variable{B:BB}{kr:Nat}
noncomputable def sortF(ds:List D):Option (List D):=match ds with
 | [.lst xs]=>if xs.length < 64/\cmAll xs=true/\depA xs<=50/\(xs.all isInt=true\/xs.all fstI=true\/xs.all fstT=true) then some (sortD xs) else none
 | _=>none
theorem IsA.perm{K:PySem.W.Frag}{q:Array Nat}(h:IsA K I ds zs)(hp:Pm ds.length q):IsA K I (permD q ds) (permV q zs):=by
 have low:∀j∈q.toList,j < ds.length:=λj hj=>by
  have:=(SK.mp hp).mem_iff.mp hj;simpa using this
 unfold permD permV;clear hp;generalize q.toList=js at low
 induction js with
 | nil=>exact IsA.nil
 | cons j js ih =>
  rw[Q7,Q7];refine IsA.cons ?_ (ih λi hi=>low i (s_ _ hi));have hj:=low j v_;obtain⟨x,e1,e2⟩:=h.get (h_ hj);rw[j_,j_,e1,h_ hj];exact e2
theorem NB{p:Pos}{t:M (List D)}(hr:Room kr X.A)(hg:Gl X "sorted")(hm:X.mg "sorted"=none)(ha:AD X B [e] t)(he:f_ [e] X.env=(false,eval e X.env)::f_ [] X.env:=by rfl)(aB:(P_ pos (f_ [] X.env)).any (·.1)=false:=by rfl):
  EO X B (.Call (.Name "sorted" p) [e] [] pos) (fn1 sortF t):=Il (Ih (hu100 hr)) (λds d e B G I H U Γ xs Q r h k=>by
 unfold sortF at e;split at e
 ·obtain⟨ok,rfl⟩:=ve e;obtain⟨x,rfl,hx⟩:=h.one;obtain⟨q,zs,rfl,h3,h4⟩:=u5 hx;refine⟨q,zs,_,rfl,(Same.rdK r.iH h3).sq,h4.mono r.iH,ok,λl q' hp es hl=>?_⟩;refine k.new r hl ?_;rw[←es];exact h4.perm hp
 ·cases e) hg hm boot_sorted ha (by decide) (by decide) he aB
end
end DL
namespace DL
open PySem PySem.SetTable
def Ris(xs:Array Nat):Prop:=∀i j (hi:i < xs.size) (hj:j < xs.size),i < j->xs[i] < xs[j]
theorem AM{xs:Array Nat}(R:Ris xs)(j:Nat):∀(f lo hi:Nat),hi<=xs.size->lo<=hi->hi - lo<=f->(∀i (h:i < xs.size),i < lo->xs[i] < j)->(∀i (h:i < xs.size),hi<=i->j<=xs[i]) →
  (Tu.go xs j f lo hi<=xs.size/\(∀i (h:i < xs.size),i < Tu.go xs j f lo hi->xs[i] < j)/\∀i (h:i < xs.size),Tu.go xs j f lo hi<=i->j<=xs[i])
 | 0,lo,hi,h1,h2,h3,h4,h5=>by
  rw[Tu.go];exact⟨by omega,h4,λi h x=>h5 i h (by omega)⟩
 | f+1,lo,hi,h1,h2,h3,h4,h5=>by
  rw[Tu.go];split
  ·have hm:(lo+hi) / 2 < xs.size:=by omega
   have e:xs.getD ((lo+hi) / 2) j=xs[(lo+hi) / 2]:=by rw[Xk,dif_pos hm];rfl
   dsimp only;rw[e];split
   ·rename_i lt;refine AM R j f ((lo+hi) / 2+1) hi h1 (by omega) (by omega) (λi h x=>?_) h5;by_cases z:i=(lo+hi) / 2
    ·subst z;exact lt
    ·exact Nat.lt_trans (R i _ h hm (by omega)) lt
   ·rename_i ug;refine AM R j f lo ((lo+hi) / 2) (by omega) (by omega) (by omega) h4 λi h x=>?_
    by_cases z:i=(lo+hi) / 2
    ·subst z;omega
    ·have:=R _ i hm h (by omega);omega
  ·exact⟨by omega,h4,λi h x=>h5 i h (by omega)⟩
theorem Am{xs:Array Nat}(R:Ris xs)(j:Nat):Tu xs j<=xs.size/\(∀i (h:i < xs.size),i < Tu xs j->xs[i] < j)/\∀i (h:i < xs.size),Tu xs j<=i->j<=xs[i]:=
 AM R j xs.size 0 xs.size (x_ _) (Rw _) (x_ _) (λi h x=>by omega) λi h x=>by omega
theorem IW{xs:Array Nat}(R:Ris xs){i:Nat}(h:i < xs.size):Tu xs xs[i]=i:=by
 obtain⟨b1,b2,b3⟩:=Am R xs[i]
 rcases TL (Tu xs xs[i]) i with l | l | l
 ·have:=b3 (Tu xs xs[i]) (by omega) (x_ _);have:=R _ i (by omega) h l;omega
 ·exact l
 ·have:=b2 i h l;omega
section
variable {t:RI}
theorem Eu(R:Ris t.place){i:Nat}(h:i < t.place.size):t.slot t.place[i]=.live i:=by
 unfold slot;dsimp only;rw[IW R h,k_ h];simp
theorem MS(R:Ris t.place)(hd:t.dummies=#[]){j:Nat}(h:j∉t.place):t.slot j=.empty:=by
 unfold slot;dsimp only
 have e:¬(t.place[Tu t.place j]? == some j)=true:=by
  intro z;have z:t.place[Tu t.place j]?=some j:=by simpa using z
  exact h (Tv z)
 rw[if_neg e];unfold has;rw[hd];simp
noncomputable def hd(m i p:Nat):Probe:=⟨i,SA m i - i,i,p,none⟩
noncomputable def adv(m:Nat)(p:Probe):Probe:=match p with
 | ⟨j,k+1,i,q,d⟩=>⟨j+1,k,i,q,d⟩
 | ⟨_,0,i,q,d⟩=>⟨(WK m i q).1,SA m (WK m i q).1 - (WK m i q).1,(WK m i q).1,(WK m i q).2,d⟩
noncomputable def pth(m:Nat)(h:Int):Nat->Probe
 | 0=>hd m (VV h % (m+1)) (VV h)
 | k+1=>adv m (pth m h k)
theorem GQ(h:Int)(k:Nat):t.advance (pth t.mask h k)=pth t.mask h (k+1):=by
 rw[pth]
 rcases pth t.mask h k with⟨j,more,i,q,d⟩
 cases more<;>rfl
theorem CS(m:Nat)(h:Int):∀k,(pth m h k).dummy=none
 | 0=>rfl
 | k+1=>by
  have ih:=CS m h k;rw[pth]
  revert ih
  rcases pth m h k with⟨j,more,i,q,d⟩
  intro ih;cases more<;>exact ih
noncomputable def sl(m:Nat)(h:Int)(k:Nat):Nat:=(pth m h k).j
theorem BQ{m:Nat}{h:Int}{c i p:Nat}(e:pth m h c=hd m i p):∀d,d<=SA m i - i->pth m h (c+d)=⟨i+d,SA m i - i - d,i,p,none⟩
 | 0,_=>e
 | d+1,bS=>by
  have ih:=BQ e d (by omega);rw[←Nat.add_assoc,pth,ih];obtain⟨k,hk⟩:∃k,SA m i - i - d=k+1:=⟨SA m i - i - d - 1,by omega⟩;rw[hk,show SA m i - i - (d+1)=k by omega];rfl
theorem CT{h:Int}{c i p:Nat}(e:pth m h c=hd m i p):pth m h (c+(SA m i - i)+1)=hd m (WK m i p).1 (WK m i p).2:=by
 have:=BQ e (SA m i - i) (x_ _);rw[pth,this,Nat.sub_self];rfl
theorem JO(m i:Nat):SA m i - i<=9:=by
 unfold SA;split<;>omega
noncomputable def lp(m:Nat):Nat->Nat->Nat->Nat×Nat
 | 0,i,p=>(i,p)
 | n+1,i,p=>lp m n (WK m i p).1 (WK m i p).2
theorem E2{m:Nat}{h:Int}:∀(n c i p:Nat),pth m h c=hd m i p->∃c',c<=c'/\c'<=c+10*n/\pth m h c'=hd m (lp m n i p).1 (lp m n i p).2
 | 0,c,i,p,e=>⟨c,x_ _,by omega,e⟩
 | n+1,c,i,p,e=>by
  obtain⟨c',h1,h2,h3⟩:=E2 n _ _ _ (CT e);have:=JO m i;exact⟨c',by omega,by omega,h3⟩
theorem xD(m:Nat):∀(a b i p:Nat),lp m (a+b) i p=lp m b (lp m a i p).1 (lp m a i p).2
 | 0,b,i,p=>by rw[U2];rfl
 | a+1,b,i,p=>by rw[Nat.succ_add,lp,xD m a b];rfl
theorem Bg(m:Nat):∀(n i p:Nat),(lp m n i p).2=p / 32 ^ n
 | 0,i,p=>by simp[lp]
 | n+1,i,p=>by
  rw[lp,Bg m n];show(p / 32) / 32 ^ n=_;rw[Nat.div_div_eq_div_mul,Nat.pow_succ,Nat.mul_comm]
theorem E6{m:Nat}:∀(n i p:Nat),i < m+1->(lp m n i p).1 < m+1
 | 0,i,p,h=>h
 | n+1,i,p,h=>by
  rw[lp];exact E6 n _ _ (Xg _ (W0 _))
theorem Nw(h:Int):VV h < 2 ^ 64:=by
 unfold VV;have h1:=Tn h (b:=2 ^ 64) (by decide);have h2:=UH h (b:=2 ^ 64) (by decide);omega
def Round(m:Nat):Prop:=∀i,i < m+1->∀j,j < m+1->∃n,n < m+1/\(lp m n i 0).1=j
theorem round7:Round 7:=by
 have:∀i,i < 8->∀j,j < 8->∃n,n < 8/\(lp 7 n i 0).1=j:=by decide +kernel
 exact this
theorem round31:Round 31:=by
 have:∀i,i < 32->∀j,j < 32->∃n,n < 32/\(lp 31 n i 0).1=j:=by decide +kernel
 exact this
theorem Es(R:Round m)(h:Int){j:Nat}(hj:j < m+1):∃n,n < m+14/\(lp m n (VV h % (m+1)) (VV h)).1=j:=by
 have p0:(lp m 13 (VV h % (m+1)) (VV h)).2=0:=by
  rw[Bg];refine Nat.div_eq_of_lt (G_ (Nw h) ?_);decide
 have l0:=E6 (m:=m) 13 (VV h % (m+1)) (VV h) (Xg _ (W0 _));obtain⟨n,h1,h2⟩:=R _ l0 j hj;refine⟨13+n,by omega,?_⟩;rw[xD,p0];exact h2
theorem OU(R:Round m)(h:Int){j:Nat}(hj:j < m+1):∃k,k < 10*(m+14)/\sl m h k=j:=by
 obtain⟨n,h1,h2⟩:=Es R h hj;obtain⟨c,h3,h4,h5⟩:=E2 (m:=m) (h:=h) n 0 _ _ rfl;refine⟨c,by omega,?_⟩;unfold sl;rw[h5];exact h2
end
noncomputable def orb(m:Nat):Nat->Nat->List Nat
 | 0,_=>[]
 | k+1,i=>i::orb m k (WK m i 0).1
theorem M9(m i:Nat):(WK m i 0).2=0:=by
 show 0 / 32=0;rfl
theorem Og(m n i:Nat):lp m (n+1) i 0=lp m n (WK m i 0).1 0:=by
 rw[lp,M9]
theorem zQ(m n i:Nat):(lp m n i 0).2=0:=by rw[Bg];simp
theorem Dy(m:Nat):∀(k i n:Nat),n < k->(orb m k i)[n]?=some (lp m n i 0).1
 | 0,_,_,h=>by omega
 | k+1,i,0,_=>rfl
 | k+1,i,n+1,h=>by
  rw[orb,RP,Dy m k _ n (by omega),Og]
theorem FY{k i j:Nat}(h:j∈orb m k i)(hl:(orb m k i).length=k):∃n,n < k/\(lp m n i 0).1=j:=by
 obtain⟨n,hn,e⟩:=Uy h;refine⟨n,by omega,?_⟩;have:=Dy m k i n (by omega);rw[h_ hn,e] at this;exact(QX this).symm
theorem Bo(m:Nat):∀(k i:Nat),(orb m k i).length=k
 | 0,_=>rfl
 | k+1,i=>by rw[orb,Rp,Bo m k]
theorem round127:Round 127:=by
 have all:∀j,j < 128->∃n,n < 128/\(lp 127 n 0 0).1=j:=λj hj=>by
  have c:∀j,j < 128->j∈orb 127 128 0:=by decide +kernel
  exact FY (c j hj) (Bo _ _ _)
 have turn:(lp 127 128 0 0).1=0:=by decide +kernel
 intro i hi j hj;obtain⟨a,ha,ea⟩:=all i hi;obtain⟨b,hb,eb⟩:=all j hj;have dP:∀n,lp 127 n i 0=lp 127 (a+n) 0 0:=λn=>by rw[xD,ea,zQ]
 rcases Ux b a with z | z
 ·refine⟨b+128 - a,by omega,?_⟩;rw[dP,show a+(b+128 - a)=128+b by omega,xD,turn,zQ,eb]
 ·exact⟨b - a,by omega,by rw[dP,show a+(b - a)=b by omega,eb]⟩
theorem round511:Round 511:=by
 have all:∀j,j < 512->∃n,n < 512/\(lp 511 n 0 0).1=j:=λj hj=>by
  have c:∀j,j < 512->j∈orb 511 512 0:=by decide +kernel
  exact FY (c j hj) (Bo _ _ _)
 have turn:(lp 511 512 0 0).1=0:=by decide +kernel
 intro i hi j hj;obtain⟨a,ha,ea⟩:=all i hi;obtain⟨b,hb,eb⟩:=all j hj;have dP:∀n,lp 511 n i 0=lp 511 (a+n) 0 0:=λn=>by rw[xD,ea,zQ]
 rcases Ux b a with z | z
 ·refine⟨b+512 - a,by omega,?_⟩;rw[dP,show a+(b+512 - a)=512+b by omega,xD,turn,zQ,eb]
 ·exact⟨b - a,by omega,by rw[dP,show a+(b - a)=b by omega,eb]⟩
noncomputable def hA(es:Array (Int×b_))(i:Nat):Int:=(es[i]?.map (·.1)).getD 0
theorem EF{es:Array (Int×b_)}{i:Nat}(h:i < es.size):hA es i=es[i].1:=by
 unfold hA;rw[k_ h];rfl
structure TabOk(t:RI)(es:Array (Int×b_)):Prop where
 nd:t.dummies=#[]
 ris:Ris t.place
 sz:t.place.size=es.size
 low:∀i (h:i < t.place.size),t.place[i]<=t.mask
 few:t.place.size<=300/\(t.mask=511\/(t.mask=127/\t.place.size<=76)\/(t.mask=31/\t.place.size<=18)\/(t.mask=7/\t.place.size<=4))
 pl:t.plain=true
 reach:∀i (h:i < es.size) (h':i < t.place.size),∃k,sl t.mask es[i].1 k=t.place[i]/\∀k',k' < k->sl t.mask es[i].1 k'∈t.place
theorem BV:∀(n:Nat) (l:List Nat),(∀j,j < n->j∈l)->n<=l.length
 | 0,_,_=>Rw _
 | n+1,l,h=>by
  have:=BV n (l.erase n) λj hj=>(List.mem_erase_of_ne (by omega)).mpr (h j (by omega))
  rw[US (h n (by omega))] at this;have:0 < l.length:=List.length_pos_of_mem (h n (by omega));omega
section
variable {t:RI}{es:Array (Int×b_)}
theorem TabOk.round(T:TabOk t es):Round t.mask:=by
 rcases T.few.2 with h | h | h | h
 ·rw[h];exact round511
 ·rw[h.1];exact round127
 ·rw[h.1];exact round31
 ·rw[h.1];exact round7
theorem TabOk.free(T:TabOk t es)(h:Int):∃K,K < 10*(t.mask+14)/\sl t.mask h K∉t.place/\∀k,k < K->sl t.mask h k∈t.place:=by
 have ex:∃k,k < 10*(t.mask+14)/\sl t.mask h k∉t.place:=by
  apply Ua
  intro no
  have:t.mask+1<=t.place.toList.length:=BV (t.mask+1) _ λj hj=>by
   obtain⟨k,k1,k2⟩:=OU T.round h hj
   apply Ua
   intro nj;exact no ⟨k,k1,by rw[k2];simpa using nj⟩
  rw[RD] at this;have:=T.few;omega
 obtain⟨k,k1,k2⟩:=ex
 induction k using Nat.strongRecOn with
 | ind k ih =>
  by_cases z:∃k',k' < k/\sl t.mask h k'∉t.place
  ·obtain⟨k',a,b⟩:=z;exact ih k' a (by omega) b
  ·refine⟨k,k1,k2,λk' bQ=>?_⟩
   apply Ua
   intro nj;exact z ⟨k',bQ,nj⟩
theorem Db{i:Nat}(h:i<=m):i+(SA m i - i)<=m:=by
 unfold SA;split<;>omega
theorem zM(m:Nat)(h:Int):∀k,(pth m h k).j+(pth m h k).more<=m/\(pth m h k).i<=m
 | 0=>by
  have:VV h % (m+1)<=m:=Wo (Xg _ (W0 _));exact⟨Db this,this⟩
 | k+1=>by
  have ih:=zM m h k;rw[pth]
  revert ih
  rcases pth m h k with⟨j,more,i,q,d⟩
  intro ih;cases more with
  | zero =>
   have:(WK m i q).1<=m:=Wo (Xg _ (W0 _));exact⟨Db this,this⟩
  | succ more =>
   dsimp only at ih;exact⟨by show j+1+more<=m;omega,ih.2⟩
theorem Nq{xs:Array Nat}{j:Nat}(h:j∈xs):∃i,∃h:i < xs.size,xs[i]=j:=by
 obtain⟨i,hi,e⟩:=TY h;exact⟨i,hi,e⟩
theorem GT(T:TabOk t es){h:Int}{K:Nat}(hK:sl t.mask h K∉t.place)(hk:∀k,k < K->sl t.mask h k∈t.place):∀(f k:Nat),k<=K->K - k < f →
  (∃k' i,∃hi:i < es.size,∃bC:i < t.place.size,k<=k'/\k' < K/\t.place[i]=sl t.mask h k'/\es[i].1=h/\Uz t (hA es) h f (pth t.mask h k)=some (.candidate (sl t.mask h k') i (pth t.mask h (k'+1))) ∧
   ∀bG,k<=bG->bG < k'->∀j (hj:j < es.size) (bE:j < t.place.size),t.place[j]=sl t.mask h bG->es[j].1≠h) ∨
  (Uz t (hA es) h f (pth t.mask h k)=some (.empty (sl t.mask h K) none)/\∀bG,k<=bG->bG < K->∀j (hj:j < es.size) (bE:j < t.place.size),t.place[j]=sl t.mask h bG->es[j].1≠h)
 | 0,k,h1,h2=>by omega
 | f+1,k,h1,h2=>by
  by_cases z:k=K
  ·subst z;right;refine⟨?_,λbG a b=>by omega⟩;rw[Uz,show(pth t.mask h k).j=sl t.mask h k from rfl,MS T.ris T.nd hK,CS]
  ·obtain⟨i,hi,e⟩:=Nq (hk k (by omega));have cN:i < es.size:=by rw[←T.sz];exact hi
   have st:t.slot (pth t.mask h k).j=.live i:=by
    rw[show(pth t.mask h k).j=t.place[i] from e.symm];exact Eu T.ris hi
   have only:∀j (bE:j < t.place.size),t.place[j]=sl t.mask h k->j=i:=λj bE ej=>by
    rcases TL j i with l | l | l
    ·have:=T.ris j i bE hi l;omega
    ·exact l
    ·have:=T.ris i j hi bE l;omega
   by_cases same:es[i].1=h
   ·left;refine⟨k,i,cN,hi,x_ _,by omega,e,same,?_,λbG a b=>by omega⟩;rw[Uz,st];dsimp only;rw[EF cN,same,if_pos (by simp),GQ];rfl
   ·have go:Uz t (hA es) h (f+1) (pth t.mask h k)=Uz t (hA es) h f (pth t.mask h (k+1)):=by
     rw[Uz,st];dsimp only;rw[EF cN,if_neg (by simpa using same),GQ]
    rw[go]
    have here:∀j (hj:j < es.size) (bE:j < t.place.size),t.place[j]=sl t.mask h k->es[j].1≠h:=λj hj bE ej=>by
     have:=only j bE ej;subst this;exact same
    rcases GT T hK hk f (k+1) (by omega) (by omega) with⟨k',i',a1,a2,a3,a4,a5,a6,a7,a8⟩ | ⟨a1,a2⟩
    ·refine .inl ⟨k',i',a1,a2,by omega,a4,a5,a6,a7,λbG b1 b2 j hj bE ej=>?_⟩;by_cases z':bG=k
     ·subst z';exact here j hj bE ej
     ·exact a8 bG (by omega) b2 j hj bE ej
    ·refine .inr ⟨a1,λbG b1 b2 j hj bE ej=>?_⟩;by_cases z':bG=k
     ·subst z';exact here j hj bE ej
     ·exact a2 bG (by omega) b2 j hj bE ej
theorem xo{α:Type}{xs:Array α}{p:Nat}(hp:p<=xs.size)(x:α)(i:Nat):(RJ xs p x)[i]?=if i < p then xs[i]? else if i=p then some x else xs[i - 1]?:=by
 unfold RJ;rw[Array.getElem?_append,Array.size_push,Ui];have e:min p xs.size - 0=p:=by omega
 rw[e];by_cases h1:i < p
 ·rw[if_pos (by omega),if_pos h1,VW,Ui,e,if_neg (by omega),Vh,if_pos (by omega),U2]
 ·rw[if_neg h1];by_cases h2:i=p
  ·rw[if_pos (by omega),if_pos h2,VW,Ui,e,if_pos h2]
  ·rw[if_neg (by omega),if_neg h2,Vh];by_cases h3:i - (p+1) < min xs.size xs.size - p
   ·rw[if_pos h3]
    congr 1
    omega
   ·rw[if_neg h3]
    symm
    rw[TH];omega
theorem Ax{α:Type}{xs:Array α}{p:Nat}(hp:p<=xs.size)(x:α):(RJ xs p x).size=xs.size+1:=by
 unfold RJ;rw[Array.size_append,Array.size_push,Ui,Ui];omega
theorem DR{α:Type}{xs:Array α}{p:Nat}(hp:p<=xs.size)(x y:α):y∈RJ xs p x↔y=x\/y∈xs:=by
 constructor
 ·intro h;obtain⟨i,e⟩:=SO.mp h;rw[xo hp] at e;split at e
  ·exact .inr (Tv e)
  ·split at e
   ·cases e;exact .inl rfl
   ·exact .inr (Tv e)
 ·rintro(rfl | h)
  ·refine SO.mpr ⟨p,?_⟩;rw[xo hp,if_neg (by omega),if_pos rfl]
  ·obtain⟨i,e⟩:=SO.mp h;by_cases z:i < p
   ·exact SO.mpr ⟨i,by rw[xo hp,if_pos z];exact e⟩
   ·exact SO.mpr ⟨i+1,by rw[xo hp,if_neg (by omega),if_neg (by omega)];exact e⟩
theorem OS(T:TabOk t es){h:Int}{x:b_}{K:Nat}(hK:sl t.mask h K∉t.place)(hk:∀k,k < K->sl t.mask h k∈t.place):
  let q:=t.put (sl t.mask h K)
  q.1.dummies=#[]/\Ris q.1.place/\q.1.place.size=(RJ es q.2 (h,x)).size/\(∀i (h:i < q.1.place.size),q.1.place[i]<=q.1.mask)/\q.1.mask=t.mask/\q.1.plain=t.plain/\q.1.led=t.led/\q.1.moves=t.moves/\q.1.place.size=t.place.size+1/\q.2<=es.size ∧
   (∀i (h1:i < (RJ es q.2 (h,x)).size) (h2:i < q.1.place.size),∃k,sl q.1.mask (RJ es q.2 (h,x))[i].1 k=q.1.place[i]/\∀k',k' < k->sl q.1.mask (RJ es q.2 (h,x))[i].1 k'∈q.1.place):=by
 intro q;obtain⟨b1,b2,b3⟩:=Am T.ris (sl t.mask h K);have q2:q.2=Tu t.place (sl t.mask h K):=rfl;have q1:q.1.place=RJ t.place (Tu t.place (sl t.mask h K)) (sl t.mask h K):=rfl;have hp:q.2<=es.size:=by rw[q2,←T.sz];exact b1
 have nh:has t.dummies (sl t.mask h K)=false:=by rw[T.nd];rfl
 have qd:q.1.dummies=#[]:=by
  show(if has t.dummies (sl t.mask h K)=true then _ else t.dummies)=_;rw[nh,if_neg i_];exact T.nd
 have get:∀i (h2:i < q.1.place.size),(i < q.2/\∃hi:i < t.place.size,q.1.place[i]=t.place[i])\/(i=q.2/\q.1.place[i]=sl t.mask h K)\/(q.2 < i/\∃hi:i - 1 < t.place.size,q.1.place[i]=t.place[i - 1]):=λi h2=>by
  have e:=xo (x:=sl t.mask h K) b1 i;rw[←q1,←q2,k_ h2] at e;by_cases z1:i < q.2
  ·rw[if_pos z1] at e;obtain⟨hi,e⟩:=E_.mp e.symm;exact .inl ⟨z1,hi,e.symm⟩
  ·rw[if_neg z1] at e;by_cases z2:i=q.2
   ·rw[if_pos z2] at e;exact .inr (.inl ⟨z2,QX e⟩)
   ·rw[if_neg z2] at e;obtain⟨hi,e⟩:=E_.mp e.symm;exact .inr (.inr ⟨by omega,hi,e.symm⟩)
 have sz:q.1.place.size=t.place.size+1:=by rw[q1];exact Ax b1 _
 have ne:∀i (hi:i < t.place.size),t.place[i]≠sl t.mask h K:=λi hi z=>hK (by rw[←z];exact SG hi)
 refine⟨qd,?_,by rw[sz,Ax hp,T.sz],?_,rfl,rfl,rfl,rfl,sz,hp,?_⟩
 ·intro i j hi hj lt
  rcases get i hi with⟨a1,a2,a3⟩ | ⟨a1,a3⟩ | ⟨a1,a2,a3⟩<;>rcases get j hj with⟨c1,c2,c3⟩ | ⟨c1,c3⟩ | ⟨c1,c2,c3⟩
  ·rw[a3,c3];exact T.ris i j a2 c2 lt
  ·rw[a3,c3];exact b2 i a2 (by omega)
  ·rw[a3,c3];have:=b2 i a2 (by omega);have:=b3 (j - 1) c2 (by omega);omega
  ·omega
  ·omega
  ·rw[a3,c3];have:=b3 (j - 1) c2 (by omega);have:=ne (j - 1) c2;omega
  ·omega
  ·omega
  ·rw[a3,c3];exact T.ris (i - 1) (j - 1) a2 c2 (by omega)
 ·intro i hi;show _<=t.mask
  rcases get i hi with⟨a1,a2,a3⟩ | ⟨a1,a3⟩ | ⟨a1,a2,a3⟩
  ·rw[a3];exact T.low _ _
  ·rw[a3];have:=(zM t.mask h K).1;unfold sl;omega
  ·rw[a3];exact T.low _ _
 ·intro i h1 h2;have eA:∀y,y∈t.place->y∈q.1.place:=λy hy=>by rw[q1];exact(DR b1 _ _).mpr (.inr hy)
  have e:=xo (x:=(h,x)) hp i;rw[k_ h1] at e;show ∃k,sl t.mask _ k=_/\∀k',k' < k->sl t.mask _ k'∈_
  rcases get i h2 with⟨a1,a2,a3⟩ | ⟨a1,a3⟩ | ⟨a1,a2,a3⟩
  ·rw[if_pos a1] at e;obtain⟨hi,e⟩:=E_.mp e.symm;obtain⟨k,k1,k2⟩:=T.reach i hi a2;rw[←e,a3];exact⟨k,k1,λk' bQ=>eA _ (k2 k' bQ)⟩
  ·rw[if_neg (by omega),if_pos a1] at e;rw[QX e,a3];exact⟨K,rfl,λk' bQ=>eA _ (hk k' bQ)⟩
  ·rw[if_neg (by omega),if_neg (by omega)] at e;obtain⟨hi,e⟩:=E_.mp e.symm;obtain⟨k,k1,k2⟩:=T.reach (i - 1) hi a2;rw[←e,a3];exact⟨k,k1,λk' bQ=>eA _ (k2 k' bQ)⟩
end
noncomputable def tak(o:Array (Option Nat))(j:Nat):Bool:=(o.getD j (some 0)).isSome
theorem Fw{m:Nat}{o:Array (Option Nat)}{h:Int}:∀(f c i p:Nat),pth m h c=hd m i p →
  (∃k,c<=k/\TM m o f i p=some (sl m h k)/\tak o (sl m h k)=false/\∀k',c<=k'->k' < k->tak o (sl m h k')=true)\/(∀n,n < f->tak o (lp m n i p).1=true)
 | 0,c,i,p,e=>.inr λn h=>by omega
 | f+1,c,i,p,e=>by
  have run:=λd bS=>BQ e d bS
  have bj:∀d,d<=SA m i - i->sl m h (c+d)=i+d:=λd bS=>by unfold sl;rw[run d bS]
  have up:i<=SA m i:=by unfold SA;split<;>omega
  rw[TM];cases hf:(RR (SA m i+1 - i)).find? λk=>(o.getD (i+k) (some 0)).isNone with
  | some d =>
   obtain⟨d1,d2,d3⟩:=List.find?_range_eq_some.mp hf;rw[Su] at d2;left;refine⟨c+d,by omega,?_,?_,λk' a b=>?_⟩
   ·dsimp only;rw[bj d (by omega)]
   ·rw[bj d (by omega)];unfold tak;cases x:o.getD (i+d) (some 0) with
    | none=>rfl
    | some v=>rw[x] at d1;cases d1
   ·obtain⟨d',rfl⟩:∃d',k'=c+d':=⟨k' - c,by omega⟩;rw[bj d' (by omega)];have:=d3 d' (by omega);unfold tak;cases x:o.getD (i+d') (some 0) with
    | none=>rw[x] at this;cases this
    | some v=>rfl
  | none =>
   have no:=List.find?_range_eq_none.mp hf
   have all:∀k',c<=k'->k' < c+(SA m i - i)+1->tak o (sl m h k')=true:=λk' a b=>by
    obtain⟨d',rfl⟩:∃d',k'=c+d':=⟨k' - c,by omega⟩;rw[bj d' (by omega)];have:=no d' (by omega);unfold tak;cases x:o.getD (i+d') (some 0) with
    | none=>rw[x] at this;cases this
    | some v=>rfl
   dsimp only
   rcases Fw (o:=o) f _ _ _ (CT e) with⟨k,k1,k2,k3,k4⟩ | aA
   ·left;refine⟨k,by omega,k2,k3,λk' a b=>?_⟩;by_cases z:k' < c+(SA m i - i)+1
    ·exact all k' a z
    ·exact k4 k' (by omega) b
   ·right;intro n hn;cases n with
    | zero =>
     have:=all c (x_ _) (by omega);rw[←Nat.add_zero c,bj 0 (by omega)] at this;exact this
    | succ n =>
     rw[lp];exact aA n (by omega)
theorem zy:∀(k:Nat) (l:List Nat),l.Nodup->(∀x∈l,x < k)->l.length<=k
 | 0,l,_,h=>by
  cases l with
  | nil=>exact x_ _
  | cons x l=>exact absurd (h x v_) (UI _)
 | k+1,l,nd,h=>by
  by_cases z:k∈l
  ·have:=zy k (l.erase k) (nd.erase k) λx hx=>by
    have h1:=h x (List.mem_of_mem_erase hx)
    have h2:x≠k:=λe=>by
     subst e;exact(W1.not_mem_erase nd) hx
    omega
   rw[US z] at this;omega
  ·have:=zy k l nd λx hx=>by
    have h1:=h x hx;have h2:x≠k:=λe=>z (e▸hx)
    omega
   omega
structure Laid(m:Nat)(hs:List Int)(o:Array (Option Nat))(k:Nat):Prop where
 sz:o.size=m+1
 old:∀(j v:Nat),o[j]?=some (some v)->v < k
 one:∀(j j' v:Nat),o[j]?=some (some v)->o[j']?=some (some v)->j=j'
 way:∀(v:Nat),v < k->∃(j c:Nat),o[j]?=some (some v)/\sl m (hs.getD v 0) c=j/\∀c',c' < c->tak o (sl m (hs.getD v 0) c')=true
theorem Laid.room{o:Array (Option Nat)}{k:Nat}(L:Laid m hs o k)(hk:k<=m):∃j,j < m+1/\tak o j=false:=by
 apply Ua
 intro no
 have all:∀j,j < m+1->∃v,o[j]?=some (some v):=λj hj=>by
  have t:tak o j=true:=by
   cases x:tak o j with
   | true=>rfl
   | false=>exact absurd ⟨j,hj,x⟩ no
  unfold tak at t;rw[Xk,dif_pos (by rw[L.sz];exact hj)] at t;rw[k_ (by rw[L.sz];exact hj)];cases x:o[j]'(by rw[L.sz];exact hj) with
  | none=>simp[x] at t
  | some v=>exact⟨v,rfl⟩
 have nd:((RR (m+1)).map λj=>((o[j]?).bind id).getD 0).Nodup:=by
  unfold W1;rw[Wp];refine imp_of_mem ?_ List.nodup_range;intro a b ha hb ne e;obtain⟨v,hv⟩:=all a (Su.mp ha);obtain⟨v',dy⟩:=all b (Su.mp hb);rw[hv,dy] at e;have e:v=v':=e;subst e;exact ne (L.one a b v hv dy)
 have:=zy k _ nd λx hx=>by
  obtain⟨j,hj,rfl⟩:=Re.mp hx;obtain⟨v,hv⟩:=all j (Su.mp hj);rw[hv];exact L.old j v hv
 rw[p_,Ue] at this;omega
theorem Laid.step(R:Round m){o:Array (Option Nat)}{k:Nat}(L:Laid m hs o k)(hk:k<=m):∃j,TM m o (W2 m) (VV (hs.getD k 0) % (m+1)) (VV (hs.getD k 0))=some j/\Laid m hs (o.setIfInBounds j (some k)) (k+1):=by
 rcases Fw (m:=m) (o:=o) (h:=hs.getD k 0) (W2 m) 0 _ _ rfl with⟨K,_,k2,k3,k4⟩ | full
 ·refine⟨_,k2,?_⟩
  have hj:sl m (hs.getD k 0) K < o.size:=by
   rw[L.sz];have:=(zM m (hs.getD k 0) K).1;unfold sl;omega
  have free:o[sl m (hs.getD k 0) K]?=some none:=by
   unfold tak at k3;rw[RY,k_ hj] at k3;rw[k_ hj];cases x:o[sl m (hs.getD k 0) K] with
   | none=>rfl
   | some v=>rw[x] at k3;cases k3
  have get:∀i,(o.setIfInBounds (sl m (hs.getD k 0) K) (some k))[i]?=if sl m (hs.getD k 0) K=i then some (some k) else o[i]?:=λi=>by
   rw[Array.getElem?_setIfInBounds];split
   ·rename_i e;subst e;simp[hj]
   ·rfl
  have more:∀i,tak o i=true->tak (o.setIfInBounds (sl m (hs.getD k 0) K) (some k)) i=true:=λi hi=>by
   unfold tak at hi ⊢;rw[RY] at hi ⊢;rw[get];split
   ·rfl
   ·exact hi
  refine⟨by rw[UT];exact L.sz,λj v e=>?_,λj j' v e e'=>?_,λv hv=>?_⟩
  ·rw[get] at e;split at e
   ·cases e;omega
   ·have:=L.old j v e;omega
  ·rw[get] at e e';split at e
   ·cases e;split at e'
    ·omega
    ·have:=L.old j' k e';omega
   ·split at e'
    ·cases e';have:=L.old j k e;omega
    ·exact L.one j j' v e e'
  ·by_cases z:v=k
   ·subst z;exact⟨_,K,by rw[get,if_pos rfl],rfl,λc' aO=>more _ (k4 c' (Rw _) aO)⟩
   ·obtain⟨j,c,e1,e2,e3⟩:=L.way v (by omega);refine⟨j,c,?_,e2,λc' aO=>more _ (e3 c' aO)⟩;rw[get,if_neg ?_]
    ·exact e1
    ·intro e;subst e;rw[free] at e1;cases e1
 ·obtain⟨j,hj,tj⟩:=L.room hk;obtain⟨n,n1,n2⟩:=Es R (hs.getD k 0) hj;have:=full n (by unfold W2;omega);rw[n2,tj] at this;cases this
theorem Lx(R:Round m)(hs:List Int)(hm:hs.length<=m):∃o,layClean m hs.toArray=some o/\Laid m hs o hs.length:=by
 unfold layClean;rw[←Array.foldl_toList]
 have bp:∀(l pre:List Int) (o:Array (Option Nat)),hs=pre++l->Laid m hs o pre.length->∃o',List.foldl (λaf h=>do
   let (owner,k) ←af
   let j ←TM m owner (W2 m) (VV h % (m+1)) (VV h)
   pure (owner.setIfInBounds j (some k),k+1)) (some (o,pre.length)) l=some (o',hs.length)/\Laid m hs o' hs.length:=by
  intro l
  induction l with
  | nil =>
   intro pre o e L;rw[Rx] at e;subst e;exact⟨o,rfl,L⟩
  | cons h l ih =>
   intro pre o e L;have gk:hs.getD pre.length 0=h:=by rw[e,j_];simp
   have lk:pre.length<=m:=by
    have:=congrArg Vx e;simp at this;omega
   obtain⟨j,j1,j2⟩:=L.step R lk;rw[gk] at j1;obtain⟨o',h1,h2⟩:=ih (pre++[h]) (o.setIfInBounds j (some pre.length)) (by rw[e];simp) (by simpa using j2);refine⟨o',?_,h2⟩;rw[Vi,←h1]
   congr 1
   show(TM m o (W2 m) (VV h % (m+1)) (VV h)).bind _=_;rw[j1];simp
 have aV:∀(j v:Nat),(Array.replicate (m+1) (none:Option Nat))[j]?=some (some v)->False:=λj v e=>by
  rw[Array.getElem?_replicate] at e;split at e
  ·cases e
  ·cases e
 obtain⟨o',h1,h2⟩:=bp hs [] (Array.replicate (m+1) none) rfl ⟨by simp,λj v e=>(aV j v e).elim,λj j' v e=>(aV j v e).elim,λv hv=>absurd hv (UI _)⟩
 exact⟨o',by
  have:=congrArg (W3 (·.1)) h1
  exact this,h2⟩
theorem IL{es:Array (Int×b_)}(R:Round m)(few:(m=31/\es.size<=18)\/(m=127/\es.size<=76)\/(m=511/\es.size<=300))(finger moves:Nat)(led:Bool):∃t cf,laid m finger moves led true (es.map (·.1))=some (t,cf)/\(cf.filterMap (es[·]?)).size=es.size/\TabOk t (cf.filterMap (es[·]?))/\t.mask=m/\t.led=led ∧
  (∀x,x∈cf.filterMap (es[·]?)↔x∈es)/\cf.toList.Perm (RR es.size):=by
 obtain⟨o,h1,L⟩:=Lx R (es.map (·.1)).toList (by simp;omega);rw[Array.toArray_toList] at h1;have nl:(es.map (·.1)).toList.length=es.size:=by simp
 rw[nl] at L;obtain⟨live,eM⟩:∃live:List (Nat×Nat),live=(RR (m+1)).filterMap λj=>(o.getD j none).map (j,·):=⟨_,rfl⟩
 have mem:∀j v,(j,v)∈live↔o[j]?=some (some v):=λj v=>by
  rw[eM,SU];constructor
  ·rintro⟨a,ha,e⟩;rw[RY] at e;cases x:o[a]? with
   | none=>rw[x] at e;cases e
   | some w =>
    rw[x] at e;cases w with
    | none=>cases e
    | some w=>cases e;exact x
  ·intro e;have:=(E_.mp e).1;refine⟨j,Su.mpr (by rw[L.sz] at this;exact this),?_⟩;rw[RY,e];rfl
 have ris:live.Pairwise λa b=>a.1 < b.1:=by
  rw[eM,List.pairwise_filterMap];refine List.Pairwise.imp ?_ List.pairwise_lt_range;intro a b lt x hx y hy;cases e:o.getD a none with
  | none=>rw[e] at hx;cases hx
  | some v =>
   rw[e] at hx;cases hx;cases e':o.getD b none with
   | none=>rw[e'] at hy;cases hy
   | some v'=>rw[e'] at hy;cases hy;exact lt
 have mn:(live.map (·.2)).Nodup:=by
  unfold W1;rw[Wp];refine imp_of_mem ?_ ris;intro a b ha hb lt e;have h1:=(mem a.1 a.2).mp ha;have h2:=(mem b.1 b.2).mp hb;rw[e] at h1;have:=L.one _ _ _ h1 h2;omega
 have lo:live.length=es.size:=by
  refine Nat.le_antisymm ?_ ?_
  ·have:=zy es.size (live.map (·.2)) mn λx hx=>by
    obtain⟨q,hq,rfl⟩:=Re.mp hx;exact L.old q.1 q.2 ((mem _ _).mp hq)
   simpa using this
  ·have:=BV es.size (live.map (·.2)) λv hv=>by
    obtain⟨j,c,e,_⟩:=L.way v hv;exact Re.mpr ⟨(j,v),(mem j v).mpr e,rfl⟩
   simpa using this
 have low:∀q∈live,q.2 < es.size:=λq hq=>L.old q.1 q.2 ((mem _ _).mp hq)
 have out:((live.map (·.2)).toArray.filterMap (es[·]?)).toList=live.map λq=>es[q.2]?.getD (0,b_.none):=by
  rw[Array.toList_filterMap];show(live.map (·.2)).filterMap (es[·]?)=_;clear lo mn ris mem eM
  induction live with
  | nil=>rfl
  | cons q live ih =>
   have hq:=low q v_;rw[Q7,SH,k_ hq,Q7,k_ hq];rw[ih λq hq=>low q (s_ _ hq)];rfl
 refine⟨{ mask:=m,place:=(live.map (·.1)).toArray,dummies:=#[],finger,led,moves,plain:=true },(live.map (·.2)).toArray,?_,?_,?_,rfl,rfl,λx=>?_,?_⟩
 ·unfold laid;rw[h1];show some _=some _;rw[eM]
 ·rw[←RD,out,p_,lo]
 ·have qW:((live.map (·.2)).toArray.filterMap (es[·]?)).size=live.length:=by rw[←RD,out,p_]
  have qX:∀i (h1:i < ((live.map (·.2)).toArray.filterMap (es[·]?)).size) (h2:i < live.length),((live.map (·.2)).toArray.filterMap (es[·]?))[i]=es[live[i].2]?.getD (0,b_.none):=λi h1 h2=>by
   rw[←VH]
   have:((live.map (·.2)).toArray.filterMap (es[·]?)).toList[i]'(by rw[RD];exact h1)=(live.map λq=>es[q.2]?.getD (0,b_.none))[i]'(by simpa using h2):=by
    congr 1
   rw[this,UG]
  refine⟨rfl,λi j hi hj lt=>?_,?_,λi hi=>?_,⟨?_,?_⟩,rfl,λi h1 h2=>?_⟩
  ·simp at hi hj;simp only[TZ,UG];exact(UA.mp ris) i j hi hj lt
  ·rw[qW];simp
  ·simp at hi;simp only[TZ,UG];have:=(mem live[i].1 live[i].2).mp (RB hi);have:=(E_.mp this).1;rw[L.sz] at this;show _<=m;omega
  ·simp;omega
  ·have ll:(live.map (·.1)).toArray.size=live.length:=by simp
   show m=511\/(m=127/\(live.map (·.1)).toArray.size<=76)\/(m=31/\(live.map (·.1)).toArray.size<=18)\/(m=7/\_)
   rcases few with z | z | z
   ·exact .inr (.inr (.inl ⟨z.1,by rw[ll];omega⟩))
   ·exact .inr (.inl ⟨z.1,by rw[ll];omega⟩)
   ·exact .inl z.1
  ·have mq:i < live.length:=by simpa using h2
   rw[qX i h1 mq];simp only[TZ,UG];have m1:=(mem live[i].1 live[i].2).mp (RB mq);have v1:=low live[i] (RB mq);obtain⟨j,c,e1,e2,e3⟩:=L.way live[i].2 v1;have:j=live[i].1:=L.one _ _ _ e1 m1;subst this
   have hh:(es.map (·.1)).toList.getD live[i].2 0=es[live[i].2].1:=by
    rw[j_];simp[v1]
   rw[hh] at e2 e3;rw[k_ v1];refine⟨c,e2,λc' aO=>?_⟩;have tk:=e3 c' aO;unfold tak at tk;have lt:=(zM m es[live[i].2].1 c').1;have lt:sl m es[live[i].2].1 c' < o.size:=by rw[L.sz];unfold sl;omega
   rw[Xk,dif_pos lt] at tk;show sl m es[live[i].2].1 c'∈_;cases x:o[sl m es[live[i].2].1 c'] with
   | none=>simp[x] at tk
   | some v =>
    have:(sl m es[live[i].2].1 c',v)∈live:=(mem _ _).mpr (by rw[k_ lt,x]);simp only[List.mem_toArray,Re];exact⟨_,this,rfl⟩
 ·rw[←VI,out,Re];constructor
  ·rintro⟨q,hq,rfl⟩;rw[k_ (low q hq)];exact SG _
  ·intro hx;obtain⟨v,hv,rfl⟩:=TY hx;obtain⟨j,c,e,_⟩:=L.way v hv;refine⟨(j,v),(mem j v).mpr e,?_⟩;dsimp only;rw[k_ hv];rfl
 ·show(live.map (·.2)).Perm _;refine(List.perm_ext_iff_of_nodup mn List.nodup_range).mpr λv=>⟨λh=>?_,λh=>?_⟩
  ·obtain⟨q,hq,rfl⟩:=Re.mp h;exact Su.mpr (low q hq)
  ·obtain⟨j,c,e,_⟩:=L.way v (Su.mp h);exact Re.mpr ⟨(j,v),(mem j v).mpr e,rfl⟩
end DL
namespace DL
open PySem PySem.W PySem.Spec PyProof.Rows L2
mutual
def KV(h:K_):D->b_->Prop
 | .int i,u=>∃t,u=.int i t
 | .tup ds,u=>∃a o ac e,u=.ref a/\h.get? a=some o/\o.cls=.type "tuple"/\o.data=.seq (ac:List b_).toArray e/\KVs h ds ac
 | _,_=>False
def KVs(h:K_):List D->List b_->Prop
 | [],[]=>True
 | d::ds,u::us=>KV h d u/\KVs h ds us
 | _,_=>False
end
mutual
noncomputable def kyB:D->Bool
 | .int _=>true
 | .tup ds=>kyA ds
 | _=>false
noncomputable def kyA:List D->Bool
 | []=>true
 | d::ds=>kyB d&&kyA ds
end
section
variable{H:Hp}{s:c_}
mutual
theorem Cn(I:Inv X aa U H s):∀(d:D) (x:V) (u:b_),kyB d=true->Is X.K H d x->RelV x u->KV s.heap d u
 | .int i,x,u,_,h,r=>by
  rw[uZ h] at r;obtain⟨t,rfl⟩:=r;rw[KV];exact⟨t,rfl⟩
 | .tup ds,x,u,ky,h,r=>by
  obtain⟨a,xs,rfl,h1,h2⟩:=u7 h;cases r;obtain⟨ac,r1,t1,_⟩:=I.tuple h1;obtain⟨o,e1,e2,n,e3⟩:=t1;rw[kyB] at ky;rw[KV];exact⟨a,o,ac,n,rfl,e1,e2,e3,FN I ds xs ac ky h2 r1⟩
 | .non,_,_,ky,_,_=>by simp[kyB] at ky
 | .bl _,_,_,ky,_,_=>by simp[kyB] at ky
 | .str _,_,_,ky,_,_=>by simp[kyB] at ky
 | .lst _,_,_,ky,_,_=>by simp[kyB] at ky
 | .exc _ _,_,_,ky,_,_=>by simp[kyB] at ky
theorem FN(I:Inv X aa U H s):∀(ds:List D) (xs:List V) (us:List b_),kyA ds=true->IsA X.K H ds xs->Vals xs us->KVs s.heap ds us
 | [],xs,us,_,h,r=>by
  have:=h.nil_inv;subst this;cases r;rw[KVs];trivial
 | d::ds,xs,us,ky,h,r=>by
  obtain⟨x,xr,rfl,h1,h2⟩:=h.cons_inv;cases r with
  | cons r1 r2 =>
   rw[kyA,I_] at ky;rw[KVs];exact⟨Cn I d x _ ky.1 h1 r1,FN I ds xr _ ky.2 h2 r2⟩
end
end
section
variable {prog:u_}{w:C_}{E:b_->c_->Prop}
mutual
noncomputable def hD:D->Int
 | .int i=>hashInt i
 | .tup ds=>reduceHash (tupleHashOf (hDs ds))
 | _=>0
noncomputable def hDs:List D->List Int
 | []=>[]
 | d::ds=>hD d::hDs ds
end
mutual
theorem Ep:∀(d:D) (u:b_) (A:Rh) (s:c_) (Q:Int->c_->Prop),KV s.heap d u->A.units+dep d < Sa->(∀tk,Q (hD d) { s with toks:=tk })->m_ (l_ prog w) A (pyHash u) Q E s
 | .int i,u,A,s,Q,x,hu,q=>by
  rw[KV] at x;obtain⟨t,rfl⟩:=x;exact wpAny_pyHash_int (by have:=q (s.toks+1);rw[hD] at this;exact this)
 | .tup ds,u,A,s,Q,x,hu,q=>by
  rw[KV] at x;obtain⟨a,o,ac,e,rfl,x1,x2,x3,x4⟩:=x;rw[dep] at hu;refine pyHash_slot (T:= "tuple") ⟨o,x1,x2⟩ Wq F.entry_tuple_hash (F.args_tuple_hash_1 _) (beq_builtin_none _) (.inr (by omega)) ?_;refine a_ (m:=tupleItemsOf (.ref a)) (wpAny_tupleItemsOf x1 x3 (a_ ?_));rw[←Vj];refine G5 ds ac A.in1 s #[] _ x4 (by show A.units+1+_ < _;omega) λtk b hb=>?_
  refine a_ (m:=mkInt (tupleHashOf b.toList)) (wpAny_mkInt (d_ ⟨_,_,rfl,?_⟩));rw[hb];have:=q (tk+1);rw[hD] at this;exact this
 | .non,_,_,_,_,x,_,_=>by simp[KV] at x
 | .bl _,_,_,_,_,x,_,_=>by simp[KV] at x
 | .str _,_,_,_,_,x,_,_=>by simp[KV] at x
 | .lst _,_,_,_,_,x,_,_=>by simp[KV] at x
 | .exc _ _,_,_,_,_,x,_,_=>by simp[KV] at x
theorem G5:∀(ds:List D) (us:List b_) (A:Rh) (s:c_) (b:Array Int) (Q:Array Int->c_->Prop),KVs s.heap ds us->A.units+depA ds < Sa->(∀tk b',b'.toList=b.toList++hDs ds->Q b' { s with toks:=tk }) →
  m_ (l_ prog w) A (forIn us b λx r=>do let h ←pyHash x;pure unit;pure (WV (r.push h))) Q E s
 | [],us,A,s,b,Q,x,hu,q=>by
  cases us with
  | cons u us=>simp[KVs] at x
  | nil =>
   rw[Uq];exact d_ (q s.toks b (by simp[hDs]))
 | d::ds,us,A,s,b,Q,x,hu,q=>by
  cases us with
  | nil=>simp[KVs] at x
  | cons u us =>
   rw[KVs] at x;rw[depA] at hu;rw[S4];refine a_ (a_ (Ep d u A s _ x.1 (by omega) λtk=>a_ (d_ (d_ ?_))));exact G5 ds us A { s with toks:=tk } _ Q x.2 (by omega) λcY b' hb=>q cY b' (by rw[hb,hDs];simp)
end
mutual
theorem Bn:∀(d:D) (u:b_) (n:Nat) (A:Rh) (s:c_) (Q:Bool->c_->Prop),KV s.heap d u->dep d<=n->Q true s->m_ (l_ prog w) A (eqIsQuiet n u) Q E s
 | .int i,u,n,A,s,Q,x,hn,q=>by
  rw[KV] at x;obtain⟨t,rfl⟩:=x;exact RN (eqIsQuiet_byValue n rfl) q
 | .tup ds,u,n,A,s,Q,x,hn,q=>by
  rw[KV] at x;obtain⟨a,o,ac,e,rfl,x1,x2,x3,x4⟩:=x;rw[dep] at hn;obtain⟨n,rfl⟩:∃k,n=k+1:=⟨n - 1,by omega⟩;have hT:s.TypeIs (.ref a) "tuple":=⟨o,x1,x2⟩;unfold eqIsQuiet;refine a_ (Vp hT F.slot_tuple_eq.lookup ?_);refine a_ (m:=TJ (.ref a) (.type "tuple")) (SN hT isSubtype_tuple_tuple ?_);simp only[TN,TQ,if_false];refine a_ (Q5 x1 x3 (a_ ?_));show m_ _ _ (forIn ac.toArray _ _) _ _ s;rw[←Vj];refine Fz ds ac n A s _ x4 (by omega) ?_;exact d_ q
 | .non,_,_,_,_,_,x,_,_=>by simp[KV] at x
 | .bl _,_,_,_,_,_,x,_,_=>by simp[KV] at x
 | .str _,_,_,_,_,_,x,_,_=>by simp[KV] at x
 | .lst _,_,_,_,_,_,x,_,_=>by simp[KV] at x
 | .exc _ _,_,_,_,_,_,x,_,_=>by simp[KV] at x
theorem Fz:∀(ds:List D) (us:List b_) (n:Nat) (A:Rh) (s:c_) (Q:Option Bool×PUnit->c_->Prop),KVs s.heap ds us->depA ds<=n->Q (none,()) s →
  m_ (l_ prog w) A (forIn us (none,()) λy r=>do
   let __do_lift ←eqIsQuiet n y
   if(!__do_lift)=true then pure (VJ (some false,())) else do pure unit;pure (WV (none,()))) Q E s
 | [],us,n,A,s,Q,x,hn,q=>by
  cases us with
  | cons u us=>simp[KVs] at x
  | nil =>
   rw[Uq];exact d_ q
 | d::ds,us,n,A,s,Q,x,hn,q=>by
  cases us with
  | nil=>simp[KVs] at x
  | cons u us =>
   rw[KVs] at x;rw[depA] at hn;rw[S4];refine a_ (a_ (Bn d u n A s _ x.1 (by omega) ?_));rw[if_neg (by simp)];refine a_ (d_ (d_ ?_));exact Fz ds us n A s Q x.2 (by omega) q
end
mutual
theorem B6:∀(d:D) (u:b_) (n:Nat) (A:Rh) (s:c_) (Q:Bool->c_->Prop),KV s.heap d u->dep d<=n->Q false s->m_ (l_ prog w) A (Tp n u) Q E s
 | .int i,u,n,A,s,Q,x,hn,q=>by
  rw[KV] at x;obtain⟨t,rfl⟩:=x;unfold Tp;exact d_ q
 | .tup ds,u,n,A,s,Q,x,hn,q=>by
  rw[KV] at x;obtain⟨a,o,ac,e,rfl,x1,x2,x3,x4⟩:=x;rw[dep] at hn;obtain⟨n,rfl⟩:∃k,n=k+1:=⟨n - 1,by omega⟩;have look:Tl (l_ prog w) s.heap (VA (.ref a)) o.cls:=(Tl.ld x1).andThen .now;rw[x2] at look;unfold Tp;refine a_ (look.here ?_);dsimp only;rw[if_pos (by decide)];refine a_ (d_ ?_);simp only[TN,TQ,if_false];refine a_ (Q5 x1 x3 (a_ ?_));show m_ _ _ (forIn ac.toArray _ _) _ _ s;rw[←Vj];refine Hi ds ac n A s _ x4 (by omega) ?_;exact d_ q
 | .non,_,_,_,_,_,x,_,_=>by simp[KV] at x
 | .bl _,_,_,_,_,_,x,_,_=>by simp[KV] at x
 | .str _,_,_,_,_,_,x,_,_=>by simp[KV] at x
 | .lst _,_,_,_,_,_,x,_,_=>by simp[KV] at x
 | .exc _ _,_,_,_,_,_,x,_,_=>by simp[KV] at x
theorem Hi:∀(ds:List D) (us:List b_) (n:Nat) (A:Rh) (s:c_) (Q:Option Bool×PUnit->c_->Prop),KVs s.heap ds us->depA ds<=n->Q (none,()) s →
  m_ (l_ prog w) A (forIn us (none,()) λy r=>do
   let __do_lift ←Tp n y
   if __do_lift=true then pure (VJ (some true,())) else do pure unit;pure (WV (none,()))) Q E s
 | [],us,n,A,s,Q,x,hn,q=>by
  cases us with
  | cons u us=>simp[KVs] at x
  | nil =>
   rw[Uq];exact d_ q
 | d::ds,us,n,A,s,Q,x,hn,q=>by
  cases us with
  | nil=>simp[KVs] at x
  | cons u us =>
   rw[KVs] at x;rw[depA] at hn;rw[S4];refine a_ (a_ (B6 d u n A s _ x.1 (by omega) ?_));rw[if_neg i_];refine a_ (d_ (d_ ?_));exact Hi ds us n A s Q x.2 (by omega) q
end
mutual
theorem DK:∀(d:D) (u:b_) (n:Nat) (A:Rh) (s:c_) (Q:Bool->c_->Prop),KV s.heap d u->dep d<=n->Q true s->m_ (l_ prog w) A (UJ n u) Q E s
 | .int i,u,n,A,s,Q,x,hn,q=>by
  rw[KV] at x;obtain⟨t,rfl⟩:=x;unfold UJ;exact d_ q
 | .tup ds,u,n,A,s,Q,x,hn,q=>by
  rw[KV] at x;obtain⟨a,o,ac,e,rfl,x1,x2,x3,x4⟩:=x;rw[dep] at hn;obtain⟨n,rfl⟩:∃k,n=k+1:=⟨n - 1,by omega⟩;have hT:s.TypeIs (.ref a) "tuple":=⟨o,x1,x2⟩;unfold UJ;refine a_ (Vp hT Wq.lookup ?_);refine a_ (m:=Tb (.ref a)) (Q5 x1 x3 (a_ ?_));show m_ _ _ (forIn ac.toArray _ _) _ _ s;rw[←Vj];refine GZ ds ac n A s _ x4 (by omega) ?_;exact d_ q
 | .non,_,_,_,_,_,x,_,_=>by simp[KV] at x
 | .bl _,_,_,_,_,_,x,_,_=>by simp[KV] at x
 | .str _,_,_,_,_,_,x,_,_=>by simp[KV] at x
 | .lst _,_,_,_,_,_,x,_,_=>by simp[KV] at x
 | .exc _ _,_,_,_,_,_,x,_,_=>by simp[KV] at x
theorem GZ:∀(ds:List D) (us:List b_) (n:Nat) (A:Rh) (s:c_) (Q:Option Bool×PUnit->c_->Prop),KVs s.heap ds us->depA ds<=n->Q (none,()) s →
  m_ (l_ prog w) A (forIn us (none,()) λy r=>do
   let __do_lift ←UJ n y
   if(!__do_lift)=true then pure (VJ (some false,())) else do pure unit;pure (WV (none,()))) Q E s
 | [],us,n,A,s,Q,x,hn,q=>by
  cases us with
  | cons u us=>simp[KVs] at x
  | nil =>
   rw[Uq];exact d_ q
 | d::ds,us,n,A,s,Q,x,hn,q=>by
  cases us with
  | nil=>simp[KVs] at x
  | cons u us =>
   rw[KVs] at x;rw[depA] at hn;rw[S4];refine a_ (a_ (DK d u n A s _ x.1 (by omega) ?_));rw[if_neg (by simp)];refine a_ (d_ (d_ ?_));exact GZ ds us n A s Q x.2 (by omega) q
end
end
end DL
namespace DL
open PySem PySem.W PySem.Spec PyProof.Rows L2 PySem.SetTable
section
variable{prog:u_}{w:C_}{E:b_->c_->Prop}{s:c_}
theorem TabOk.fits{t:RI}{es:Array (Int×b_)}(T:TabOk t es):t.fits es.size=true:=by
 have:=T.few;have:=T.sz;unfold RI.fits RI.fill;rw[T.nd];simp[T.sz];omega
theorem TabOk.gave{t:RI}{es:Array (Int×b_)}(T:TabOk t es):t.gaveWay=false:=by
 unfold gaveWay
 rcases T.few.2 with h | h | h | h
 ·rw[h];decide
 ·rw[h.1];decide
 ·rw[h.1];decide
 ·rw[h.1];decide
theorem JW{a:g_}{o:Obj}{es:Array (Int×b_)}{t:RI}(ho:s.heap.get? a=some o)(fu:o.data=.set es ep t)(T:TabOk t es){x:b_}{h:Int}(iS:∀i (hi:i < es.size),∃b,es[i].2=.ref b)(eq:∀i (hi:i < es.size),es[i].1=h->PySem.SeqAt.EqAt A s es[i].2 x (eqf i))(seen:t.led=false->∀Q:Bool->c_->Prop,Q false s->m_ (l_ prog w) A (Tq x ((es.filter (·.1 == h)).toList.map (·.2))) Q E s){K:Nat}(hK:sl t.mask h K∉t.place)(hk:∀k,k < K->sl t.mask h k∈t.place)(uh:K < 10*(t.mask+14)){Q:SetFound->c_->Prop}(mr:∀i (hi:i < es.size),es[i].1=h->eqf i=true->Q (.there none) s)(free:(∀i (hi:i < es.size),es[i].1=h->eqf i=false)->Q (.free (sl t.mask h K) false) s):
  ∀(f k:Nat) (cg:Option Probe),k<=K->K - k < f->cg.getD (t.probeStart h)=pth t.mask h k->(∀bG,bG < k->∀j (hj:j < es.size) (bE:j < t.place.size),t.place[j]=sl t.mask h bG->es[j].1=h->eqf j=false) →
   m_ (l_ prog w) A (setSearchFrom a x h true f cg) Q E s:=by
 intro f
 induction f with
 | zero=>intro k cg h1 h2;omega
 | succ f ih =>
  intro k cg h1 h2 hs gE;unfold setSearchFrom;refine a_ (RC ho fu T.fits ?_);dsimp only;rw[T.gave,if_neg i_]
  have pr:∀m,Uz t (hA es) h (10*W2 t.mask) (pth t.mask h k)=some m->t.probe (W.hashAt es) h (cg.getD (t.probeStart h))=some m:=λm e=>by
   rw[hs];exact e
  rcases GT T hK hk (10*W2 t.mask) k h1 (by unfold W2;omega) with⟨k',i,hi,bC,a1,a2,a3,a4,a5,a6⟩ | ⟨a1,a2⟩
  ·have e:=pr _ a5
   change t.probe _ h _=_ at e
   have e':t.probe (λi=>(es[i]?.map (·.1)).getD 0) h (cg.getD (t.probeStart h))=some (.candidate (sl t.mask h k') i (pth t.mask h (k'+1))):=e;show m_ _ _ (match t.probe (λi=>(es[i]?.map (·.1)).getD 0) h (cg.getD (t.probeStart h)) with | some met=>_ | _=>_) _ _ _;rw[e'];dsimp only;obtain⟨b,eb⟩:=iS i hi;have gi:es[i]?=some es[i]:=k_ hi;have qY:t.slot (sl t.mask h k')=.live i:=by rw[←a3];exact Eu T.ris bC
   have oE:=eq i hi a4;rw[eb] at oE;have ask:t.led=true\/t.led=false:=by cases t.led<;>simp
   rcases ask with led | led
   all_goals
    first
     | (rw[led,TN,if_neg i_])
     | (rw[led,Bool.not_false,if_pos rfl];refine a_ (seen led _ ?_);rw[if_neg i_])
    rw[gi];dsimp only;rw[eb];refine a_ (F_ (oE prog w _ _ (a_ (RC ho fu T.fits ?_))));dsimp only;cases c:eqf i with
    | true =>
     rw[if_pos (by rfl)];exact d_ (mr i hi a4 c)
    | false =>
     rw[if_neg (by decide)];have sm:t.sameMemory t.moves t.mask=some true:=by unfold sameMemory;simp
     rw[sm];dsimp only;rw[if_pos rfl,qY];dsimp only;rw[gi];dsimp only;rw[eb];refine a_ (wpAny_isSame_ref_self (a_ (d_ ?_)));rw[if_pos rfl];dsimp only;rw[if_neg i_];refine ih (k'+1) _ (by omega) (by omega) rfl λbG b1 j hj bE ej hh=>?_
     by_cases z1:bG < k
     ·exact gE bG z1 j hj bE ej hh
     ·by_cases z2:bG=k'
      ·have:j=i:=by
        rw[z2,←a3] at ej
        rcases TL j i with l | l | l
        ·have:=T.ris j i bE bC l;omega
        ·exact l
        ·have:=T.ris i j bC bE l;omega
       subst this;exact c
      ·exact absurd hh (a6 bG (by omega) (by omega) j hj bE ej)
  ·have e':t.probe (λi=>(es[i]?.map (·.1)).getD 0) h (cg.getD (t.probeStart h))=some (.empty (sl t.mask h K) none):=pr _ a1;show m_ _ _ (match t.probe (λi=>(es[i]?.map (·.1)).getD 0) h (cg.getD (t.probeStart h)) with | some met=>_ | _=>_) _ _ _;rw[e'];dsimp only;refine d_ (free λi hi hh=>?_);have bC:i < t.place.size:=by rw[T.sz];exact hi
   obtain⟨c,c1,c2⟩:=T.reach i hi bC;rw[hh] at c1 c2
   have cK:c < K:=by
    rcases TL c K with l | l | l
    ·exact l
    ·subst l;exact absurd (by rw[c1];exact SG bC) hK
    ·exact absurd (c2 K l) hK
   by_cases z:c < k
   ·exact gE c z i hi bC c1.symm hh
   ·exact absurd hh (a2 c (by omega) cK i hi bC c1.symm)
end
section
variable{prog:u_}{w:C_}{E:b_->c_->Prop}{s:c_}
def SetAt(h:K_)(a:g_)(led:Bool)(es:Array (Int×b_)):Prop:=∃o ep t,h.get? a=some o/\o.cls=.type "set"/\o.data=.set es ep t/\TabOk t es/\t.led=led
theorem Ej{a:g_}{o:Obj}{es es':Array (Int×b_)}{t t':RI}(ho:h.get? a=some o)(hd:o.data=.set es ep t):(h.update a (putSet es' t')).get? a=some { o with data:=.set es' (ep+1) t' }:=by
 have e:=putSet_of es' t' hd;have:=O_ (putSet es' t') ho (by rw[e];rfl);rw[e] at this;exact this
theorem Jp{a:g_}{led:Bool}{es:Array (Int×b_)}{b:g_}{h:Int}{Q:Bool->c_->Prop}(S:SetAt s.heap a led es)(few:(∀i (hi:i < es.size),es[i].1=h->eqf i=false)->es.size<=59)(iS:∀i (hi:i < es.size),∃b,es[i].2=.ref b)(eq:∀i (hi:i < es.size),es[i].1=h->PySem.SeqAt.EqAt A s es[i].2 (.ref b) (eqf i))(seen:∀Q:Bool->c_->Prop,Q false s->m_ (l_ prog w) A (Tq (.ref b) ((es.filter (·.1 == h)).toList.map (·.2))) Q E s)(value:∀Q:Bool->c_->Prop,Q true s->m_ (l_ prog w) A (UJ 8 (.ref b)) Q E s)(old:∀i (hi:i < es.size),es[i].1=h->eqf i=true->Q false s)(new:(∀i (hi:i < es.size),es[i].1=h->eqf i=false)->∀h' es',SetAt h' a led es'->(∀e,e∈es'↔e=(h,.ref b)\/e∈es)->es'.size=es.size+1->KeptBut a s.heap h'->Q true { s with heap:=h' }):
  m_ (l_ prog w) A (setAddHashed a (.ref b) h) Q E s:=by
 have line:600<=D_:=by rw[Rz];decide
 obtain⟨o,ep,t,ho,hc,fu,T,tl⟩:=S;obtain⟨K,k1,k2,k3⟩:=T.free h;have fits:=T.fits;unfold setAddHashed;refine F_ ?_;unfold setAddHashedIn;refine a_ (RC ho fu fits ?_);dsimp only;rw[if_neg (by simp[byScan,b_.scannable])];unfold setSearch;refine a_ (JW ho fu T iS eq (λ_=>seen) k2 k3 k1 (λi hi hh ee=>?_) (λaV=>?_) 100000 0 none (Rw _) ?_ rfl λbG z=>by omega)
 ·exact d_ (old i hi hh ee)
 ·have few:=few aV;dsimp only;refine a_ (RC ho fu fits ?_);dsimp only;obtain⟨p1,p2,p3,p4,p5,p6,p7,p8,p9,mw,oF⟩:=OS T (h:=h) (x:=.ref b) k2 k3;obtain⟨q,qZ⟩:∃q,q=t.put (sl t.mask h K):=⟨_,rfl⟩;rw[←qZ] at p1 p2 p3 p4 p5 p6 p7 p8 p9 mw oF ⊢;rw[p6,T.pl,if_pos rfl];refine a_ (value _ ?_);rw[if_pos rfl];have cZ:(RJ es q.2 (h,b_.ref b)).size=es.size+1:=Ax mw _;refine a_ (Wr ho fu ?_ (by rw[cZ];omega));have g1:=Ej (es':=RJ es q.2 (h,b_.ref b)) (t':=q.1) ho fu;have c6:KeptBut a s.heap (s.heap.update a (putSet (RJ es q.2 (h,b_.ref b)) q.1)):=λc u ne e=>(B_ _ _ (QW ne)).trans e
  have eA:∀e,e∈RJ es q.2 (h,b_.ref b)↔e=(h,.ref b)\/e∈es:=λe=>DR mw _ e
  obtain⟨h1,ra⟩:∃h1,h1=s.heap.update a (putSet (RJ es q.2 (h,b_.ref b)) q.1):=⟨_,rfl⟩;rw[←ra] at g1 c6 ⊢
  have fill:q.1.fill=es.size+1:=by
   unfold RI.fill;rw[p1,p9,T.sz];rfl
  by_cases full:q.1.tooFull=true
  ·-- laid anew: five things,32 places
   have m7:(t.mask=7/\es.size+1=5)\/(t.mask=31/\es.size+1=19):=by
    unfold tooFull at full;rw[fill,p5] at full;simp only[ge_iff_le,decide_eq_true_eq] at full;have:=T.few;have:=T.sz
    rcases this with x
    rcases T.few.2 with m | m | m | m
    ·rw[m] at full;omega
    ·rw[m.1] at full;omega
    ·rw[m.1] at full;omega
    ·rw[m.1] at full;omega
   obtain⟨nm,Rn,sa,fw⟩:∃nm,Round nm/\sizeAbove (grown (es.size+1))=nm+1/\((nm=31/\es.size+1<=18)\/(nm=127/\es.size+1<=76)\/(nm=511/\es.size+1<=300)):=by
    rcases m7 with z | z
    ·exact⟨31,round31,by rw[z.2];decide,.inl ⟨rfl,by omega⟩⟩
    ·exact⟨127,round127,by rw[z.2];decide,.inr (.inl ⟨rfl,by omega⟩)⟩
   rw[if_pos (by simp[full])];unfold setRelay
   have my:q.1.fits (RJ es q.2 (h,b_.ref b)).size=true:=by
    unfold RI.fits;rw[fill,cZ,p5,p9,T.sz]
    rcases m7 with z | z<;>rw[z.1]<;>simp<;>omega
   refine a_ (a_ (RC (s:={ s with heap:=h1 }) g1 rfl my ?_));dsimp only;rw[sa,if_neg (by omega)];obtain⟨t2,cf,l1,l2,l3,l4,l5,l6,_⟩:=IL (es:=RJ es q.2 (h,b_.ref b)) Rn (by rw[cZ];exact fw) q.1.finger (q.1.movedTo nm) q.1.led
   have rf:q.1.relaid ((RJ es q.2 (h,b_.ref b)).map (·.1)) (grown (es.size+1))=some (t2,cf):=by
    unfold relaid;rw[sa,p6,T.pl];exact l1
   rw[rf];refine a_ (RN (a:=(cf.filterMap ((RJ es q.2 (h,b_.ref b))[·]?),t2)) ?_ ?_)
   ·show(if((cf.filterMap ((RJ es q.2 (h,b_.ref b))[·]?)).size != (RJ es q.2 (h,b_.ref b)).size)=true then _ else pure _)=_;rw[l2,bne_self_eq_false,if_neg i_]
   ·dsimp only;refine Wr g1 rfl ?_ (by rw[l2,cZ];omega);refine d_ (new aV _ _ ⟨_,_,t2,Ej g1 rfl,hc,rfl,l3,by rw[l5,p7,tl]⟩ (λe=>(l6 e).trans (eA e)) (by rw[l2,cZ]) λc u ne e=>(B_ _ _ (QW ne)).trans (c6 c u ne e))
  ·rw[if_neg (by simp[full])];refine d_ (new aV h1 _ ⟨_,_,q.1,g1,hc,rfl,⟨p1,p2,p3,p4,?_,by rw[p6];exact T.pl,oF⟩,by rw[p7,tl]⟩ eA cZ c6);unfold tooFull at full;rw[fill,p5] at full;simp only[ge_iff_le,decide_eq_true_eq] at full;have:=T.sz;rw[p9,p5];refine⟨by omega,?_⟩
   rcases T.few.2 with m | m | m | m
   ·exact .inl m
   ·refine .inr (.inl ⟨m.1,?_⟩);rw[m.1] at full;omega
   ·refine .inr (.inr (.inl ⟨m.1,?_⟩));rw[m.1] at full;omega
   ·refine .inr (.inr (.inr ⟨m.1,?_⟩));rw[m.1] at full;omega
 ·rcases T.few.2 with m | m | m | m
  ·rw[m] at k1;omega
  ·rw[m.1] at k1;omega
  ·rw[m.1] at k1;omega
  ·rw[m.1] at k1;omega
end
noncomputable def dstep(af:List D)(d:D):List D:=if af.any (λe=>deq e d)=true then af else af++[d]
noncomputable def dd(ds:List D):List D:=ds.foldl dstep []
theorem Na(af:List D)(d:D):af.length<=(dstep af d).length:=by
 unfold dstep;split
 ·exact x_ _
 ·simp
theorem G':∀(ds af:List D),af.length<=(ds.foldl dstep af).length
 | [],af=>x_ _
 | d::ds,af=>z_ (Na af d) (G' ds _)
theorem Jc(ds:List D){i:Nat}(h:i < ds.length):dd (ds.take (i+1))=dstep (dd (ds.take i)) ds[i]:=by
 unfold dd;rw[Wz,Vk,h_ h];rfl
theorem MP(ds:List D)(i:Nat):(dd (ds.take i)).length<=(dd ds).length:=by
 unfold dd
 conv=>rhs;rw[←Tw i ds,Vk]
 exact G' _ _
theorem Gw{d:D}:∀(ds af:List D),d∈ds.foldl dstep af->d∈af\/d∈ds
 | [],af,h=>.inl h
 | e::ds,af,h=>by
  rcases Gw ds _ h with h | h
  ·unfold dstep at h;split at h
   ·exact .inl h
   ·rcases Q8.mp h with h | h
    ·exact .inl h
    ·exact .inr (by rw[q_.mp h];exact v_)
  ·exact .inr (s_ _ h)
theorem xq(h:d∈dd ds):d∈ds:=by
 rcases Gw ds [] h with h | h
 ·cases h
 ·exact h
section
variable{H:Hp}{s:c_}{prog:u_}{w:C_}{E:b_->c_->Prop}
def Stn(X:Cx)(H:Hp)(e:Int×b_)(d:D):Prop:=e.1=hD d/\∃x,Is X.K H d x/\RelV x e.2
def EsOk(X:Cx)(H:Hp)(es:Array (Int×b_))(L:List D):Prop:=es.size=L.length/\(∀e∈es,∃d∈L,Stn X H e d)/\∀d∈L,∃e∈es,Stn X H e d
noncomputable def isT:D->Bool
 | .tup _=>true
 | _=>false
theorem Ad{x:V}{u:b_}(ht:isT d=true)(h:Is X.K H d x)(r:RelV x u):∃b,x=.ref b/\u=.ref b:=by
 cases d<;>simp[isT] at ht
 obtain⟨a,xs,rfl,h1,h2⟩:=u7 h;cases r;exact⟨a,rfl,rfl⟩
theorem Stn.det(I:Inv X aa U H s){e:Int×b_}{d':D}(dl:dep d < 1000)(rg:dep d' < 1000)(h:isT d=true)(h':isT d'=true)(x:Stn X H e d)(y:Stn X H e d'):d=d':=by
 obtain⟨_,v,a1,a2⟩:=x;obtain⟨_,v',b1,b2⟩:=y;obtain⟨b,rfl,e1⟩:=Ad h a1 a2;obtain⟨b',rfl,e2⟩:=Ad h' b1 b2;rw[e1] at e2;cases e2;exact yq I dl rg a1 b1
theorem M8{x:b_}(hx:KV s.heap d x)(dx:dep d<=8):∀(ys:List b_) (Q:Bool->c_->Prop),(∀y∈ys,∃e,KV s.heap e y/\dep e<=8)->Q false s->m_ (l_ prog w) A (Tq x ys) Q E s:=by
 intro ys Q hy q;unfold Tq;refine a_ ?_
 have bp:∀(ys:List b_) (R:Option Bool×PUnit->c_->Prop) (body:b_->Option Bool×PUnit->Sem (ForInStep (Option Bool×PUnit))),(∀y∈ys,∀R':ForInStep (Option Bool×PUnit)->c_->Prop,R' (.yield (none,())) s->m_ (l_ prog w) A (body y (none,())) R' E s)->R (none,()) s →
   m_ (l_ prog w) A (forIn ys (none,()) body) R E s:=by
  intro ys R body hb r
  induction ys with
  | nil=>rw[Uq];exact d_ r
  | cons y ys ih =>
   rw[S4];exact a_ (hb y v_ _ (ih λz hz=>hb z (s_ _ hz)))
 refine bp ys _ _ (λy rh R' r'=>?_) (d_ q);obtain⟨e,ky,ke⟩:=hy y rh;dsimp only;split
 all_goals
  split
  ·exact d_ r'
  ·refine a_ (Bn d _ 8 A s _ hx dx ?_);rw[if_neg (by simp)];refine a_ (Bn e _ 8 A s _ ky ke ?_);rw[if_neg (by simp)];refine a_ (B6 d _ 8 A s _ hx dx ?_);rw[if_neg i_];refine a_ (B6 e _ 8 A s _ ky ke ?_);rw[if_neg i_];exact d_ r'
end
section
variable{H:Hp}{s:c_}{prog:u_}{w:C_}{E:b_->c_->Prop}
def Ext(s0 s:c_):Prop:=∃h tk,s={ s0 with heap:=h,toks:=tk }/\∀b o,s0.heap.get? b=some o->h.get? b=some o
theorem Ext.inv(I:Inv X aa U H s0)(e:Ext s0 s):Inv X aa U H s:=by
 obtain⟨h,tk,rfl,k⟩:=e;exact I.kept (t':=tk) k
theorem Ext.next(e:Ext s0 s)(k:∀b o,b < s0.heap.objs.size->s.heap.get? b=some o->h'.get? b=some o):Ext s0 { s with heap:=h',toks:=tk }:=by
 obtain⟨h,t,rfl,k0⟩:=e;exact⟨h',tk,rfl,λb o x=>k b o (w_ x) (k0 b o x)⟩
def SetOk(ds:List D):Prop:=cmAll ds=true/\ds.all kyB=true/\ds.all isT=true/\depA ds<=8/\(dd ds).length<=28
theorem SetAt.kept{a:g_}{led:Bool}{es:Array (Int×b_)}(S:SetAt h a led es)(k:∀o,h.get? a=some o->h'.get? a=some o):SetAt h' a led es:=by
 obtain⟨o,ep,t,r1,r2⟩:=S;exact⟨o,ep,t,k _ r1,r2⟩
theorem Stn.up(hJ:∀d x,Is X.K J d x->Is X.K H d x){e:Int×b_}(h:Stn X J e d):Stn X H e d:=by
 obtain⟨h1,x,h2,h3⟩:=h;exact⟨h1,x,hJ _ _ h2,h3⟩
theorem OL(I0:Inv X aa U H s0){It:g_}(hS:s0.heap.objs.size<=S)(rj:s0.heap.objs.size<=It){P:Nat->b_->Prop}{St:Nat->K_->Prop}(W:UV prog w A.in1 It fp [It] n P St)(oG:S∉fp)(hJ:∀d x,Is X.K J d x->Is X.K H d x)(ha:IsA X.K J ds zs)(ok:SetOk ds)(hn:n=ds.length)(hP:∀i v,P i v->∃x,zs[i]?=some x/\RelV x v)(hu:A.units+20 < Sa){led:Bool}{R:WR->c_->Prop}:
  ∀(k i:Nat) (s:c_),n - i=k->i<=n->Ext s0 s->St i s.heap->(∃es,SetAt s.heap S led es/\EsOk X J es (dd (ds.take i))) →
   (∀s' es,Ext s0 s'->SetAt s'.heap S led es->EsOk X J es (dd ds)->R (.ok (.ret .none)) s') →
   RS (l_ prog w) A (.builtin "set.update.loop" ⟨[.ref S,.ref It],[]⟩) R s:=by
 obtain⟨cm,ky,ti,dp,few⟩:=ok;have oH:S≠It:=λe=>oG (by rw[e];exact W.sub It v_)
 have nb:∀b,b < s0.heap.objs.size->b∉[It]:=λb hb h=>by
  rw[q_.mp h] at hb;exact absurd rj (Nat.not_le.mpr hb)
 have rl:∀b,b < s0.heap.objs.size->b≠S:=λb hb h=>by
  rw[h] at hb;exact absurd hS (Nat.not_le.mpr hb)
 intro k
 induction k with
 | zero =>
  intro i s hk hi ex st fv r;obtain⟨es,s1,s2⟩:=fv;have:i=n:=by omega
  subst this;refine Q2 U3 ?_;rw[Ru Sg _];refine a_ (m:=Sm (.ref It)) (W.done s _ _ st λh' tk keep=>d_ ?_);rw[hn,VL] at s2;exact r _ es (ex.next λb o hb x=>keep b o (nb b hb) x) (s1.kept λo x=>keep S o (by simpa using oH) x) s2
 | succ k ih =>
  intro i s hk hi ex st fv r;obtain⟨es,s1,s2⟩:=fv;have lt:i < ds.length:=by omega
  refine Q2 U3 ?_;rw[Ru Sg _];refine a_ (m:=Sm (.ref It)) (W.item i s _ _ (by omega) st λv h1 rm pv dz c6=>?_);obtain⟨x,e1,rv⟩:=hP i v pv;obtain⟨x',eG,hx⟩:=ha.get (h_ lt);rw[e1] at eG;cases eG;have dm:ds[i]∈ds:=RB lt;have td:isT ds[i]=true:=t_.mp ti _ dm;have mz:dep ds[i]<=8:=z_ (vy dm) dp;obtain⟨b,rfl,rfl⟩:=Ad td hx rv;have mB:∀tk,Ext s0 { s with heap:=h1,toks:=tk }:=λtk=>ex.next λb o hb x=>c6 b o (nb b hb) x
  have oJ:SetAt h1 S led es:=s1.kept λo x=>c6 S o (by simpa using oH) x
  have I1:=(mB rm).inv I0;have mC:=Cn I1 _ _ _ (t_.mp ky _ dm) (hJ _ _ hx) rv;refine a_ (m:=SE [.ref b] (setAdd S (.ref b))) (F_ ?_);unfold setAdd;refine F_ (a_ (Ep _ _ _ _ _ mC (by show A.units+1+_ < _;omega) λtk=>?_));have I2:=(mB tk).inv I0
  have ch:∀k,∃d',∀hk:k < es.size,d'∈dd (ds.take i)/\Stn X J es[k] d':=λk=>by
   by_cases hk:k < es.size
   ·obtain⟨d',m,q⟩:=s2.2.1 es[k] (SG hk);exact⟨d',λ_=>⟨m,q⟩⟩
   ·exact⟨.non,λh=>absurd h hk⟩
  have gW:∀k (hk:k < es.size),(ch k).choose∈dd (ds.take i)/\Stn X J es[k] (ch k).choose:=λk hk=>(ch k).choose_spec hk
  have sub:∀d'∈dd (ds.take i),d'∈ds:=λd' h=>R4 (xq h)
  have rn:∀d'∈dd (ds.take i),cmB d' ds[i]=true:=λd' h=>t_.mp (t_.mp cm _ (sub d' h)) _ dm
  have fP:∀d'∈dd (ds.take i),isT d'=true:=λd' h=>t_.mp ti _ (sub d' h)
  have gI:∀d'∈dd (ds.take i),dep d'<=8:=λd' h=>z_ (vy (sub d' h)) dp
  have rp:∀d'∈dd (ds.take i),∀e,Stn X J e d'->KV h1 d' e.2:=λd' h e q=>by
   obtain⟨_,y,q1,q2⟩:=q;exact Cn I2 _ _ _ (t_.mp ky _ (sub d' h)) (hJ _ _ q1) q2
  have aV:(∀k (hk:k < es.size),es[k].1=hD ds[i]->deq (ch k).choose ds[i]=false)->(dd (ds.take i)).any (λe=>deq e ds[i])=false:=λhz=>by
   rw[UK];intro h;obtain⟨d',m,q⟩:=U4.mp h;obtain⟨e,m1,q1⟩:=s2.2.2 d' m;obtain⟨k,hk,rfl⟩:=TY m1;have same:=Stn.det I2 (by have:=gI _ (gW k hk).1;omega) (by have:=gI _ m;omega) (fP _ (gW k hk).1) (fP _ m) ((gW k hk).2.up hJ) (q1.up hJ);have rq:=zp _ _ (rn d' m) q;have:=hz k hk (by rw[q1.1,rq]);rw[same,q] at this;cases this
  have step:dd (ds.take (i+1))=dstep (dd (ds.take i)) ds[i]:=Jc ds lt
  have cont:∀h2 es',KeptBut S h1 h2->SetAt h2 S led es'->EsOk X J es' (dd (ds.take (i+1)))->RS (l_ prog w) A (.builtin "set.update.loop" ⟨[.ref S,.ref It],[]⟩) R { s with heap:=h2,toks:=tk }:=λh2 es' kb sa eo=>by
   refine ih (i+1) _ (by omega) (by omega) ((mB tk).next (tk:=tk) λb o hb x=>kb b o (rl b hb) x) (W.frame _ _ _ dz λb hb o x=>kb b o (λe=>oG (e▸hb)) x) ⟨es',sa,eo⟩ r
  refine Jp (s:={ s with heap:=h1,toks:=tk }) (led:=led) (es:=es) (eqf:=λk=>deq (ch k).choose ds[i]) oJ (λhz=>?_) (λk hk=>?_) (λk hk _=>?_) (λQ q=>?_) (λQ q=>DK _ _ 8 _ _ _ mC mz q) (λk hk hh ee=>?_) λhz h2 es' sa mem sz kb=>?_
  ·have l1:=MP ds (i+1);rw[step,dstep,if_neg (by rw[aV hz];exact i_),QZ,Ts,←s2.1] at l1;omega
  ·obtain⟨m,_,y,q1,q2⟩:=gW k hk;obtain⟨b',_,e⟩:=Ad (fP _ m) q1 q2;exact⟨b',e⟩
  ·obtain⟨m,_,y,q1,q2⟩:=gW k hk;exact(xy I2 8 A.in1 (by show A.units+1+8 < _;omega) (by decide) _ _ _ _ _ _ ⟨gI _ m,mz⟩ (hJ _ _ q1) (hJ _ _ hx) q2 rv).2.1
  ·refine M8 (s:={ s with heap:=h1,toks:=tk }) (d:=ds[i]) mC mz _ _ (λy hy=>?_) q;obtain⟨e,m,rfl⟩:=Re.mp hy;have m':e∈es:=(Array.mem_filter.mp (VI.mp m)).1;obtain⟨d',m1,q1⟩:=s2.2.1 e m';exact⟨d',rp d' m1 e q1,gI d' m1⟩
  ·refine d_ ⟨J_ Sg _,cont h1 es (λb o _ x=>x) oJ ?_⟩;rw[step,dstep,if_pos (U4.mpr ⟨_,(gW k hk).1,ee⟩)];exact s2
  ·refine d_ ⟨J_ Sg _,cont h2 es' kb sa ?_⟩;rw[step,dstep,if_neg (by rw[aV hz];exact i_)];have own:Stn X J (hD ds[i],.ref b) ds[i]:=⟨rfl,_,hx,rv⟩;refine⟨by rw[sz,s2.1];simp,λe he=>?_,λd' bS=>?_⟩
   ·rcases(mem e).mp he with rfl | he
    ·exact⟨_,by simp,own⟩
    ·obtain⟨d',m,q⟩:=s2.2.1 e he;exact⟨d',Rl _ m,q⟩
   ·rcases Q8.mp bS with h | h
    ·obtain⟨e,m,q⟩:=s2.2.2 d' h;exact⟨e,(mem e).mpr (.inr m),q⟩
    ·rw[q_.mp h];exact⟨_,(mem _).mpr (.inl rfl),own⟩
end
theorem GX:Manifest.owners.lookup (String.ofList ['r','o','t','a','r','e','t','i','_','t','e','s'].reverse)=some Manifest.sig_set_iterator:=by kernel_rfl
theorem xN:Slot "set_iterator" "__next__" "set_iterator.__next__":=.of (owner:= "set_iterator") (n:= "__next__") (by rw[typeLookup_type,Vt];kernel_rfl) (by decide +kernel) (by decide +kernel) (by decide +kernel) (by first | exact .inl (by decide +kernel) | exact .inr (by decide +kernel)) (by rw[isSubtype_type];kernel_rfl)
theorem FL:W4 table "set_iterator.__next__"=some RV.«set_iterator.__next__»:=entryFor_of_tree (by kernel_rfl)
theorem Du(a:b_):Wc "set_iterator.__next__" ⟨[a],[]⟩:=by
 unfold Wc;rw[signature?_of (id:= "set_iterator.__next__") (n:=['_','_','t','x','e','n','_','_']) (o:=['r','o','t','a','r','e','t','i','_','t','e','s']) (by kernel_rfl) GX]
 kernel_rfl
theorem L8:W4 table "set.__iter__"=some RV.«frozenset.__iter__»:=entryFor_alias (id':= "frozenset.__iter__") (by kernel_rfl) rfl (by decide +kernel) (by kernel_rfl)
theorem DP{α:Type}:∀(l:List α) (i:Nat) (h:i < l.length),(l[i]::l.eraseIdx i).Perm l
 | a::l,0,h=>List.Perm.refl _
 | a::l,i+1,h=>by
  rw[List.eraseIdx_cons_succ,List.getElem_cons_succ];exact(swap a _ _).trans ((DP l i (by simpa using h)).cons a)
theorem EB{α:Type}(next:Nat->Nat):∀(f k:Nat) (left:List α) (out:Array α),left.length=f->(U5.go next f k left out).toList.Perm (out.toList++left)
 | 0,k,left,out,h=>by
  rw[U5.go,RG.mp h,Rx]
 | f+1,k,left,out,h=>by
  have lt:next k % left.length < left.length:=Xg _ (by omega);rw[U5.go,h_ lt];dsimp only;refine(EB next f (k+1) _ _ (by rw[List.length_eraseIdx_of_lt lt];omega)).trans ?_;rw[Array.toList_push,Vf];exact List.Perm.append_left _ (DP left _ lt)
theorem OE{α:Type}(next:Nat->Nat)(xs:Array α):(U5 next xs).toList.Perm xs.toList:=by
 have:=EB next xs.size 0 xs.toList #[] (by simp);simpa[U5] using this
section
variable{prog:u_}{w:C_}{E:b_->c_->Prop}{s:c_}
noncomputable def byTx(w:C_):Bool:=w.params.followText "set-order"
noncomputable def walkOf(w:C_)(S:g_)(ep:Nat)(es:Array (Int×b_)):Array (Int×b_):=if byTx w=true then U5 (w.params.setOrder S ep) es else es
theorem Br(w:C_)(S:g_)(ep:Nat)(es:Array (Int×b_)):(walkOf w S ep es).toList.Perm es.toList:=by
 unfold walkOf;split
 ·exact OE _ _
 ·exact List.Perm.refl _
theorem Aa(w:C_)(S:g_)(ep:Nat)(es:Array (Int×b_)):(walkOf w S ep es).size=es.size:=by
 have:=(Br w S ep es).length_eq;simpa using this
noncomputable def slotAt(w:C_)(t:RI)(k:Nat):Nat:=if byTx w=true then 0 else match k with
 | 0=>0
 | k+1=>t.place.getD k 0+1
def SitAt(h:K_)(I S:g_)(slot k n ep:Nat):Prop:=∃o,h.get? I=some o/\o.cls=.type "set_iterator"/\o.data=.fields #[.int slot 0,.int k 0,.ref S,.int n 0,.int ep 0]
def SetIs(h:K_)(S:g_)(es:Array (Int×b_))(ep:Nat)(t:RI):Prop:=∃o,h.get? S=some o/\o.cls=.type "set"/\o.data=.set es ep t
theorem My{w:C_}{t:RI}{es:Array (Int×b_)}(T:TabOk t es)(hb:byTx w=false){k:Nat}(hk:k<=es.size):Tu t.place (slotAt w t k)=k:=by
 unfold slotAt;rw[hb,if_neg i_];have sz:=T.sz;cases k with
 | zero =>
  dsimp only;obtain⟨b1,b2,b3⟩:=Am T.ris 0
  rcases Nat.eq_zero_or_pos (Tu t.place 0) with h | h
  ·exact h
  ·have:=b2 0 (by omega) h;omega
 | succ k =>
  dsimp only;have lt:k < t.place.size:=by omega
  rw[Xk,dif_pos lt]
  change Tu t.place (t.place[k]+1)=k+1
  obtain⟨b1,b2,b3⟩:=Am T.ris (t.place[k]+1)
  rcases TL (Tu t.place (t.place[k]+1)) (k+1) with l | l | l
  ·have:=b3 k lt (by omega);omega
  ·exact l
  ·have h1:k+1 < t.place.size:=by omega
   have:=b2 (k+1) h1 l;have:=T.ris k (k+1) lt h1 (by omega);omega
theorem CK{Q:Bool->c_->Prop}(q:Q (byTx w) s):m_ (l_ prog w) A setsByText Q E s:=a_ (U6 (d_ q))
theorem GJ{es:Array (Int×b_)}{t:RI}(T:TabOk t es)(led:t.led=!byTx w)(hS:SetIs s.heap S es ep t){k:Nat}(hk:k<=es.size){Q:Option (b_×Nat)->c_->Prop}(q:Q ((walkOf w S ep es)[k]?.map λe=>(e.2,slotAt w t (k+1))) s):m_ (l_ prog w) A (Xh S (slotAt w t k) k ep) Q E s:=by
 obtain⟨o,ho,hc,hd⟩:=hS;unfold Xh;refine a_ (RC ho hd T.fits ?_);dsimp only;refine a_ (CK ?_);cases hb:byTx w with
 | true =>
  rw[if_pos rfl,bne_self_eq_false,if_neg i_];have z:∀k,slotAt w t k=0:=λk=>by unfold slotAt;rw[hb,if_pos rfl]
  rw[z];rw[z] at q;refine a_ ?_;unfold setWalk;refine a_ (RC ho hd T.fits ?_);dsimp only;refine a_ (CK ?_);rw[hb,if_pos rfl];refine a_ (U6 (d_ (d_ ?_)));unfold walkOf at q;rw[hb,if_pos rfl] at q;exact q
 | false =>
  rw[if_neg i_];show m_ _ _ (if(!t.plain&&decide (es.size > 1))=true then _ else _) _ _ _;rw[T.pl,TN,Vv,if_neg i_];refine a_ ?_;show m_ _ _ (if(!t.led&&!es.isEmpty)=true then _ else _) _ _ _;rw[led,hb,Bool.not_false,TN,Vv,if_neg i_];refine d_ (d_ ?_);rw[My T hb hk];unfold walkOf at q;rw[hb,if_neg i_] at q;have sz:=T.sz;by_cases lt:k < es.size
  ·have lt':k < t.place.size:=by omega
   rw[k_ lt,k_ lt'];rw[k_ lt] at q;unfold slotAt at q;rw[hb,if_neg i_] at q;simp only[map_some,Xk,lt',dif_pos] at q;exact q
  ·rw[TH (by omega)];rw[TH (by omega)] at q;exact q
end
section
variable{prog:u_}{w:C_}{E:b_->c_->Prop}{s:c_}
theorem DW:Slot "set_iterator" "__iter__" "set_iterator.__iter__":=.of (owner:= "set_iterator") (n:= "__iter__") (by rw[typeLookup_type,Vt];kernel_rfl) (by decide +kernel) (by decide +kernel) (by decide +kernel) (by first | exact .inl (by decide +kernel) | exact .inr (by decide +kernel)) (by rw[isSubtype_type];kernel_rfl)
theorem J9:W4 table "set_iterator.__iter__"=some RV.«dict_keyiterator.__iter__»:=entryFor_alias (id':= "dict_keyiterator.__iter__") (by kernel_rfl) rfl (by decide +kernel) (by kernel_rfl)
theorem MA(a:b_):Wc "set_iterator.__iter__" ⟨[a],[]⟩:=by
 unfold Wc;rw[signature?_of (id:= "set_iterator.__iter__") (n:=['_','_','r','e','t','i','_','_']) (o:=['r','o','t','a','r','e','t','i','_','t','e','s']) (by kernel_rfl) GX]
 kernel_rfl
theorem SitAt.type{I:g_}{slot k:Nat}(h:SitAt s.heap I S slot k n ep):s.TypeIs (.ref I) "set_iterator":=by
 obtain⟨o,h1,h2,_⟩:=h;exact⟨o,h1,h2⟩
theorem SetIs.type{es:Array (Int×b_)}{t:RI}(h:SetIs s.heap S es ep t):s.TypeIs (.ref S) "set":=by
 obtain⟨o,h1,h2,_⟩:=h;exact⟨o,h1,h2⟩
theorem Op{es:Array (Int×b_)}{t:RI}(T:TabOk t es)(hS:SetIs s.heap S es ep t){Q:b_->c_->Prop}(q:Q (.ref s.heap.objs.size) { s with heap:=s.heap.push { cls:=.type "set_iterator", data:=.fields #[.int 0 0,.int 0 0,.ref S,.int es.size 0,.int ep 0] } }):m_ (l_ prog w) A (V7 (.ref S)) Q E s:=by
 have hT:=hS.type;obtain⟨o,ho,hc,hd⟩:=hS;refine Ws hT F.slot_set_iter (Rv F.slot_set_iter hT L8 ?_ (F.args_set_iter_1 _));refine a_ (m:=slot0 "__iter__" ⟨[.ref S],[]⟩) (a_ (d_ (d_ ?_)));refine a_ (m:=RV.Frozenset.sizeOf S) (a_ (Ub ho hd T.fits (d_ ?_)));refine a_ (m:=setDrawn S) ?_;unfold setDrawn;refine a_ (RC ho hd T.fits ?_);dsimp only;refine a_ (CK (d_ ?_));have z:(!byTx w&&(!t.plain&&decide (es.size > 1)))=false:=by rw[T.pl];simp
 show m_ _ _ (if(!byTx w&&(!t.plain&&decide (es.size > 1)))=true then _ else _) _ _ _;rw[z,if_neg i_];refine a_ (d_ (a_ ?_));unfold setEpoch;refine a_ (RC ho hd T.fits (d_ ?_));exact a_ (M_ (d_ ⟨_,rfl, "set_iterator", _,⟨_,r_ _ rfl,rfl⟩,xN.lookup,q⟩))
theorem Mb(hh:A.handled=none){Q:Option b_->c_->Prop}(q:∀h',(∀b o,s.heap.get? b=some o->h'.get? b=some o)->Q none { s with heap:=h' }):
  m_ (l_ prog w) A (newExc (.type "StopIteration") [] >>= λe=>(raiseNew e:Sem PySem.Fin)) (λ_ _=>False) (λe s'=>m_ (l_ prog w) A (TJ e (.type "StopIteration")) (λb gS=>b=true/\Q none gS) (λ_ _=>False) s') s:=by
 refine a_ ?_;unfold newExc newTuple;refine a_ (M_ (a_ (m:=VD _ _) (RN (a:=b_.none) (by first | rfl | (simp only[VD];rfl)) (M_ ?_ (by size_fits)))) (by size_fits));unfold raiseNew;refine a_ (wpAny_handled ?_);rw[hh];refine a_ (d_ (wpAny_throw ?_));refine SN (T:= "StopIteration") (b:=true) ⟨_,r_ _ rfl,rfl⟩ VF ⟨rfl,q _ λb o x=>?_⟩;exact e_ _ (e_ _ x)
theorem L6{I:g_}{es:Array (Int×b_)}{k:Nat}{t:RI}(T:TabOk t es)(led:t.led=!byTx w)(hI:SitAt s.heap I S (slotAt w t k) k es.size ep)(hS:SetIs s.heap S es ep t)(hk:k < es.size){Q:Option b_->c_->Prop}(q:∀v h',(walkOf w S ep es)[k]?.map (·.2)=some v->SitAt h' I S (slotAt w t (k+1)) (k+1) es.size ep->KeptBut I s.heap h'->Q (some v) { s with heap:=h' }):m_ (l_ prog w) A (Sm (.ref I)) Q E s:=by
 have hT:=hI.type;obtain⟨o,ho,hc,hd⟩:=hI;obtain⟨oS,mD,rz,mE⟩:=id hS;unfold Sm;refine a_ (SW (Rr (name:=Sc "__next__") hT xN (Rv xN hT FL ?_ (Du _))));refine a_ (m:=slotArgs "__next__" 0 ⟨[.ref I],[]⟩) (d_ ?_);refine a_ (wpAny_fieldsOf ho hd ?_);refine a_ (Ub mD mE T.fits ?_);rw[if_neg (by simp)];dsimp only;have lt:k < (walkOf w S ep es).size:=by rw[Aa];exact hk
 refine a_ (m:=Xh S _ _ _) ?_;simp only[Ti];refine GJ T led hS (TR hk) ?_;rw[k_ lt,map_some];dsimp only;refine a_ (Se ho hd (by simp) ?_);obtain⟨h1,e1⟩:∃h1,h1=s.heap.update I (U7 (·.setIfInBounds 0 (R9 ((slotAt w t (k+1):Nat):Int)))):=⟨_,rfl⟩;have mF:=O_ (U7 (·.setIfInBounds 0 (R9 ((slotAt w t (k+1):Nat):Int)))) ho (Sz (SJ hd _));have mG:=SJ hd (·.setIfInBounds 0 (R9 ((slotAt w t (k+1):Nat):Int)));have k1:KeptBut I s.heap h1:=λb o ne x=>by rw[e1];exact(B_ _ _ (QW ne)).trans x
 rw[←e1] at mF ⊢;refine a_ (Se mF mG (by simp) (d_ ⟨_,rfl,d_ (q _ _ (by rw[k_ lt];rfl) ⟨_,O_ _ mF (Sz (SJ mG _)),?_,?_⟩ λb o ne x=>(B_ _ _ (QW ne)).trans (k1 b o ne x))⟩))
 ·exact((UE ..).trans (UE ..)).trans hc
 ·rw[SJ mG];simp[R9]
theorem Mk(hh:A.handled=none){I:g_}{es:Array (Int×b_)}{t:RI}(T:TabOk t es)(led:t.led=!byTx w)(hI:SitAt s.heap I S (slotAt w t es.size) es.size es.size ep)(hS:SetIs s.heap S es ep t){Q:Option b_->c_->Prop}(q:∀h',KeptBut I s.heap h'->Q none { s with heap:=h' }):m_ (l_ prog w) A (Sm (.ref I)) Q E s:=by
 have hT:=hI.type;obtain⟨o,ho,hc,hd⟩:=hI;obtain⟨oS,mD,rz,mE⟩:=id hS;unfold Sm;refine a_ (SW (Rr (name:=Sc "__next__") hT xN (Rv xN hT FL ?_ (Du _))));refine a_ (m:=slotArgs "__next__" 0 ⟨[.ref I],[]⟩) (d_ ?_);refine a_ (wpAny_fieldsOf ho hd ?_);refine a_ (Ub mD mE T.fits ?_);rw[if_neg (by simp)];dsimp only;refine a_ (m:=Xh S _ _ _) ?_;simp only[Ti];refine GJ T led hS (x_ _) ?_;rw[TH (by rw[Aa];exact x_ _),Option.map_none];dsimp only;refine a_ (Se ho hd (by simp) ?_);refine Q9 (Mb (A:=A.in1) (s:={ s with heap:=_ }) (Q:=Q) hh λh' keep=>q h' λb o ne x=>keep b o ((B_ _ _ (QW ne)).trans x)) (λ_ _ x=>x.elim) λe s' h=>?_
 refine a_ (Q9 (wpAny_of_in1 h) (λb gS hb=>?_) λ_ _ x=>x.elim);obtain⟨rfl,hq⟩:=hb;exact d_ hq
theorem OB(hh:A.handled=none){I:g_}(ne:S≠I){es:Array (Int×b_)}{t:RI}(T:TabOk t es)(led:t.led=!byTx w):
  UV prog w A I [I,S] [I] es.size (λk v=>(walkOf w S ep es)[k]?.map (·.2)=some v) (λk h=>SitAt h I S (slotAt w t k) k es.size ep/\SetIs h S es ep t) where
 sub:=λb hb=>by
  rw[q_.mp hb];exact v_
 frame:=λk h h' st keep=>by
  obtain⟨⟨o,a1,a2⟩,⟨o',b1,b2⟩⟩:=st;exact⟨⟨o,keep I (by simp) o a1,a2⟩,⟨o',keep S (by simp) o' b1,b2⟩⟩
 item:=λk s Q E hk st q=>L6 T led st.1 st.2 hk λv h' e si kb=>by
  refine q v h' s.toks e ⟨si,?_⟩ λb o nb x=>kb b o (λz=>nb (by rw[z];simp)) x
  obtain⟨o',b1,b2⟩:=st.2;exact⟨o',kb S o' ne b1,b2⟩
 done:=λs Q E st q=>Mk hh T led st.1 st.2 λh' kb=>q h' s.toks λb o nb x=>kb b o (λz=>nb (by rw[z];simp)) x
 self:=λk s Q E st q=>by
  have hT:=st.1.type;exact Ws hT DW (Rv DW hT J9 (d_ ⟨_,rfl, "set_iterator", _,hT,xN.lookup,q⟩) (MA _))
end
section
variable{prog:u_}{w:C_}{E:b_->c_->Prop}{s:c_}
theorem JH{xs:Array b_}(h:ItemsOf (λk v=>xs[k]?=some v) af xs.size):af=xs:=by
 refine Array.ext h.1 λi h1 h2=>?_
 have:=h.2 i af[i] (k_ h1)
 change xs[i]?=some af[i] at this
 rw[k_ h2] at this;exact Eq.symm (QX this)
theorem Nt{Q:Bool->c_->Prop}(hT:s.TypeIs (.ref S) "set")(q:Q false s):m_ (l_ prog w) A (listLengthHint (.ref S)) Q E s:=by
 unfold listLengthHint;refine a_ (Vp hT F.slot_set_len.lookup ?_);have sp:splitId "set.__len__"=some ("set", "__len__"):=by decide +kernel
 dsimp only;rw[sp];dsimp only;refine a_ (SN hT sub_set_self ?_);rw[if_neg (by decide)];exact a_ (Vb hT (d_ q))
theorem M7(hh:A.handled=none){es:Array (Int×b_)}{t:RI}(T:TabOk t es)(led:t.led=!byTx w)(hS:SetIs s.heap S es ep t){Q:List b_->c_->Prop}(q:∀h' tk,(∀b o,s.heap.get? b=some o->h'.get? b=some o)->s.heap.objs.size<=h'.objs.size->Q ((walkOf w S ep es).toList.map (·.2)) { s with heap:=h',toks:=tk }):m_ (l_ prog w) A (Xf (.ref S)) Q E s:=by
 have line:310<=D_:=by rw[Rz];decide
 have few:es.size<=300:=by have:=T.few;have:=T.sz;omega
 have oK:S < s.heap.objs.size:=by
  obtain⟨o,ho,_⟩:=hS;exact w_ ho
 unfold Xf;refine a_ (wpAny_runValue (Q2 F.entry_proto_collect ?_));rw[Ru F.plain_proto_collect _];refine a_ (m:=newList []) (M_ (d_ ⟨J_ Wt _,Q2 F.entry_list_iadd ?_⟩));rw[Ru Wt _];obtain⟨h1,e1⟩:∃h1,h1=s.heap.push { cls:=.type "list", data:=.seq ([]:List b_).toArray }:=⟨_,rfl⟩;have fU:h1.objs.size=s.heap.objs.size+1:=by rw[e1,RT]
 have gJ:∀b o,s.heap.get? b=some o->h1.get? b=some o:=λb o x=>by rw[e1];exact e_ _ x
 have oM:h1.get? s.heap.objs.size=some { cls:=.type "list", data:=.seq ([]:List b_).toArray }:=by rw[e1];exact r_ _ rfl
 rw[←e1]
 have mH:SetIs h1 S es ep t:=by
  obtain⟨o,ho,r⟩:=hS;exact⟨o,gJ _ _ ho,r⟩
 have gN:s.heap.objs.size≠S:=Tg oK;show m_ _ A.in1 (listExtendWith (.ref s.heap.objs.size) (.ref S) (.ref s.heap.objs.size)) _ _ { s with heap:=h1 };unfold listExtendWith;refine a_ (Vb (s:={ s with heap:=h1 }) mH.type ?_);rw[if_neg (by simp[RV.List.listSameRef,gN])];refine a_ (Op (s:={ s with heap:=h1 }) T mH ?_);obtain⟨I,eI⟩:∃I,I=h1.objs.size:=⟨_,rfl⟩;obtain⟨h2,e2⟩:∃h2,h2=h1.push { cls:=.type "set_iterator", data:=.fields #[.int 0 0,.int 0 0,.ref S,.int es.size 0,.int ep 0] }:=⟨_,rfl⟩;have iT:∀b o,h1.get? b=some o->h2.get? b=some o:=λb o x=>by rw[e2];exact e_ _ x
 have oN:SitAt h2 I S (slotAt w t 0) 0 es.size ep:=⟨_,by rw[e2,eI];exact r_ _ rfl,rfl,by unfold slotAt;split<;>rfl⟩
 have oO:SetIs h2 S es ep t:=by
  obtain⟨o,ho,r⟩:=mH;exact⟨o,iT _ _ ho,r⟩
 show m_ _ _ _ _ _ { s with heap:=h1.push _ };rw[←e2];rw[←eI];refine a_ (F_ (Nt (s:={ s with heap:=h2 }) oO.type ?_));rw[if_pos (by decide +kernel)];refine a_ (Uw (a_ (m:=RV.List.listTouch (.ref s.heap.objs.size)) ?_));have kY:=iT _ _ oM;refine a_ (m:=Tc s.heap.objs.size (·.push .none)) (Q_ kY rfl ?_ (by simp) (by simp));have kZ:=O_ (TC (·.push b_.none)) kY rfl;refine Q_ kZ rfl ?_ (by show(#[b_.none]:Array b_).size<=_;simp;omega) (by simp);have k6:=O_ (TC (·.pop)) kZ rfl;obtain⟨h4,e4⟩:∃h4,h4=((h2.update s.heap.objs.size (TC (·.push b_.none))).update s.heap.objs.size (TC (·.pop))):=⟨_,rfl⟩;have cG:KeptBut s.heap.objs.size h2 h4:=λb o ne x=>by rw[e4];exact(B_ _ _ (QW ne)).trans ((B_ _ _ (QW ne)).trans x)
 rw[←e4] at k6;show m_ _ _ _ _ _ { s with heap:=K_.update (K_.update h2 _ _) _ _ };rw[←e4];have jQ:s.heap.objs.size≠I:=by rw[eI,fU];exact H_ (Ug _)
 have oP:S≠I:=by rw[eI,fU];exact H_ (Sx oK)
 have W:=(OB (prog:=prog) (w:=w) (A:=A.in1) (ep:=ep) (by exact hh) oP T led).toS;refine d_ ⟨J_ F.plain_extend_loop _,codeAny_extend_loopS W (by omega) s.heap.objs.size (by simp[jQ,gN]) _ es.size 0 _ _ _ rfl (Rw _) ?_ k6 (ItemsOf.nil _) λs' af c mv here it=>?_⟩
 ·obtain⟨o,a1,a2⟩:=oN;obtain⟨o',b1,b2⟩:=oO;exact⟨⟨o,cG _ _ (QW jQ) a1,a2⟩,⟨o',cG _ _ (QW gN) b1,b2⟩⟩
 ·obtain⟨h',g',d',cY,gR⟩:=s';have eg:g'=s.gens:=mv.gens;have ed:d'=s.drawn:=mv.drawn;have eo:gR=s.os:=mv.os;subst eg;subst ed;subst eo;refine a_ (wpAny_load here (d_ ?_));have size:es.size=((walkOf w S ep es).map (·.2)).size:=by rw[Array.size_map,Aa]
  have all:af=(walkOf w S ep es).map (·.2):=JH (by
   rw[←size];refine⟨it.1,λj v hj=>?_⟩;have:=it.2 j v hj;show((walkOf w S ep es).map (·.2))[j]?=some v;rw[Array.getElem?_map]
   exact this)
  have lt':s.heap.objs.size < h'.objs.size:=w_ here;have:=q h' cY (λb o x=>mv.heap b o (λhb=>?_) (cG b o (H_ (w_ x)) (iT _ _ (gJ _ _ x)))) (TR lt')
  ·rw[all];simpa using this
  ·have lb:=w_ x
   rcases A_.mp hb with z | z
   ·exact H_ lb z
   ·rw[q_.mp z,eI,fU] at lb;exact absurd lb (Xe.mpr (Vg _))
end
section
variable{prog:u_}{w:C_}{E:b_->c_->Prop}{s:c_}
noncomputable def fresh0(w:C_):Obj:={ cls:=.type "set", dict:=none,data:=.set #[] 0 (.fresh 0 0 (!byTx w)) }
theorem LH(a:b_){Q:b_->c_->Prop}(q:Q (.ref s.heap.objs.size) { s with heap:=s.heap.push (fresh0 w) }):
  RS (l_ prog w) A (.call (.builtin "set.__new__") ⟨[.type "set", a],[]⟩) (Xl Q E) s:=by
 refine Vq (a_ (m:=Sh "set.__new__" ⟨[.type "set", a],[]⟩) (RN (PySem.F.newCall_set_1 a) (d_ ⟨J_ F.plain_set_new _,Q2 F.entry_set_new ?_⟩)));rw[Ru F.plain_set_new _];unfold RV.«set.__new__» newClass;have iJ:=sub_set_self;obtain⟨hp,g,d,tk,os⟩:=s;dsimp only
 wp_walk
 refine U6 (d_ (a_ (wpAny_alloc (d_ (d_ q)))))
theorem Ld(w:C_):TabOk (.fresh 0 0 (!byTx w)) #[]:=by
 refine⟨rfl,λi j hi=>?_,rfl,λi hi=>?_,⟨Rw _,.inr (.inr (.inr ⟨rfl,Rw _⟩))⟩,rfl,λi hi=>?_⟩
 all_goals exact absurd hi (UI _)
variable{H:Hp}
theorem LO(I0:Inv X aa U H s)(hh:A.handled=none){ah:List b_}(hl:s.heap.IsList l ah.toArray)(hJ:∀d x,Is X.K J d x->Is X.K H d x)(ha:IsA X.K J ds zs)(hv:Vals zs ah)(ok:SetOk ds)(hu:A.units+50 < Sa){Q:b_->c_->Prop}(q:∀S s' es,Ext s s'->s.heap.objs.size<=S->SetAt s'.heap S (!byTx w) es->EsOk X J es (dd ds)->Q (.ref S) s'):m_ (l_ prog w) A (call (.type "set") [.ref l]) Q E s:=by
 obtain⟨c,tl,tN⟩:=S9.mro;have rC:=S9.made;have iJ:=S9.sub;refine S3 (Vq (d_ ⟨UU _ (by decide +kernel),Q2 F.entry_type_call ?_⟩));rw[Rh.under_plain (weight_type_call_type "set" [.ref l] []) rfl];have h1:=S9.notType;have h2:=S9.canCreate;have uk:=PySem.F.typeCall_set_1 (.ref l)
 repeat any_goals first | assumption | wp_step
 refine R7 (LH (w:=w) (.ref l) (E:=E) (Q:=λobj au=>obj=.ref s.heap.objs.size/\au={ s with heap:=s.heap.push (fresh0 w) }) ⟨rfl,rfl⟩) λr au hr=>?_
 rcases r with e | fl
 ·exact hr
 cases fl with
 | ret obj =>
  obtain⟨rfl,rfl⟩:=hr;have hS:(s.heap.push (fresh0 w)).get? s.heap.objs.size=some (fresh0 w):=r_ _ rfl;have hT:c_.TypeIs { s with heap:=s.heap.push (fresh0 w) } (.ref s.heap.objs.size) "set":=⟨_,hS,rfl⟩;have oo:=S9.init.lookup;have oQ:=S9.init.bind (.ref s.heap.objs.size)
  repeat any_goals first | assumption | wp_step
  refine R7 (RK (R:=Xl (λr fe=>r=.none/\∃es,Ext s fe/\SetAt fe.heap s.heap.objs.size (!byTx w) es/\EsOk X J es (dd ds)) E) S9.init.plain F.entry_set_init (check_set_init_1 hT ?_)) λoR fe fV=>?_
  ·obtain⟨ol,oU,cX,nl,oV⟩:=hl;have oW:l < s.heap.objs.size:=w_ oU;obtain⟨tP,mI,rD,jR⟩:=ol;simp only at cX oV;subst cX;subst oV;have k7:(s.heap.push (fresh0 w)).get? l=some { cls:=.type "list", dict:=mI,data:=.seq ah.toArray nl,slots:=jR }:=e_ _ oU;have tQ:=PySem.F.sub_list_set;have tR:=PySem.F.sub_list_frozenset;have eJ:(b_.type "list" == b_.type "dict")=false:=(by decide);have dN:(s.heap.push (fresh0 w)).IsList l ah.toArray:=⟨_,k7,rfl,nl,rfl⟩;obtain⟨h1,e1⟩:∃h1,h1=s.heap.push (fresh0 w):=⟨_,rfl⟩;have fU:h1.objs.size=s.heap.objs.size+1:=by rw[e1,RT]
   have gJ:∀b o,s.heap.get? b=some o->h1.get? b=some o:=λb o x=>by rw[e1];exact e_ _ x
   rw[←e1] at hS k7 dN;show m_ _ _ _ _ _ { s with heap:=s.heap.push (fresh0 w) };rw[←e1];have rE:h1.get? s.heap.objs.size=some { cls:=.type "set", dict:=none,data:=.set #[] 0 (.fresh 0 0 (!byTx w)) }:=hS;unfold RV.«set.__init__» noKeywords updateFrom;generalize hPI:V7=PI
   wp_walk
   subst hPI;refine RA (s:={ s with heap:=h1 }) dN (a_ (wpAny_runValue ?_));have jQ:l≠h1.objs.size:=by rw[fU];exact H_ (Sx oW)
   refine OL (s0:=s) (led:=!byTx w) I0 (x_ _) (by rw[fU];exact Vg _) (S7 (by exact hh) h1.objs.size l jQ ah.toArray) ?_ hJ ha ok (by rw[o_,←hv.length,←ha.length]) (λi v hi=>?_) (by show A.units+1+1+20 < _;omega) _ 0 _ rfl (Rw _) ?_ ?_ ?_ λs' es ex sa eo=>?_
   ·rw[fU];intro hm
    rcases A_.mp hm with z | z
    ·exact absurd z (H_ (Ug _))
    ·exact absurd (q_.mp z) (Tg oW)
   ·have bC:ah[i]?=some v:=by simpa using hi
    have li:i < zs.length:=by
     rw[hv.length]
     rcases Ux i ah.length with z | z
     ·exact z
     ·rw[Tt z] at bC;cases bC
    obtain⟨u,e3,e4⟩:=hv.get (h_ li);rw[bC] at e3;cases e3;exact⟨_,h_ li,e4⟩
   ·exact⟨_,s.toks,rfl,λb o x=>e_ _ (gJ b o x)⟩
   ·exact⟨⟨_,r_ _ rfl,rfl,rfl⟩,dN.push _⟩
   ·refine⟨#[],⟨_,0,_,e_ _ rE,rfl,rfl,Ld w,rfl⟩,rfl,λe he=>?_,λd hd=>?_⟩
    ·simp at he
    ·cases hd
   ·exact d_ (d_ ⟨rfl,es,ex,sa,eo⟩)
  ·rcases oR with e | mJ
   ·exact fV
   ·cases mJ with
    | ret r =>
     obtain⟨rfl,es,e1,e2,e3⟩:=fV
     repeat any_goals first | assumption | wp_step
     exact q _ _ es e1 (x_ _) e2 e3
    | _=>exact fV.elim
 | _=>exact hr.elim
end
theorem IsA.up{K:PySem.W.Frag}{J H:Hp}(h:∀d x,Is K J d x->Is K H d x):∀{ds:List D}{zs:List V},IsA K J ds zs->IsA K H ds zs
 | [],zs,a=>by rw[a.nil_inv];exact IsA.nil
 | d::ds,zs,a=>by
  obtain⟨x,r,rfl,h1,h2⟩:=a.cons_inv;exact IsA.cons (h _ _ h1) (IsA.up h h2)
section
variable{H:Hp}{s:c_}
theorem Fi{α:Type}:∀(l m:List α),l.Nodup->(∀x∈l,x∈m)->m.length<=l.length->l.Perm m
 | [],m,_,_,h=>by rw[RG.mp (Nat.le_zero.mp h)]
 | x::l,m,nd,h,len=>by
  obtain⟨a,b,rfl⟩:=Wd (h x v_);rw[Tz] at nd
  have p:=Fi l (a++b) nd.2 (λy hy=>by
   have:=h y (s_ _ hy)
   rcases Q8.mp this with z | z
   ·exact(Rl _ z)
   ·rcases A_.mp z with z | z
    ·subst z;exact absurd hy nd.1
    ·exact Q1 _ z) (by simp at len ⊢;omega)
  exact(p.cons x).trans List.perm_middle.symm
theorem E1:∀(ds af:List D),af.Nodup->(ds.foldl dstep af).Nodup
 | [],af,h=>h
 | d::ds,af,h=>by
  refine E1 ds _ ?_;unfold dstep;split
  ·exact h
  ·rename_i no;rw[Wu];refine⟨h,by simp,λa ha b hb e=>?_⟩;rw[q_.mp hb] at e;subst e;exact no (U4.mpr ⟨a,ha,CG a⟩)
theorem JV(ds:List D):(dd ds).Nodup:=E1 ds [] List.nodup_nil
theorem HG{l m:List D}(p:l.Perm m)(cm:cmAll l=true):sortD l=sortD m:=by
 refine CH _ _ ((xG l).trans (p.trans (xG m).symm)) (AI l) (AI m) λa ha b hb h1 h2=>?_
 have c:=t_.mp (t_.mp cm a ((xG l).mem_iff.mp ha)) b ((xG l).mem_iff.mp hb);refine zp a b c ?_;rw[yI a b c];unfold leD at h1 h2;rw[h1,h2];rfl
theorem Gx{n:Nat}:∀{xs:List D},(∀x∈xs,dep x<=n)->depA xs<=n
 | [],_=>by rw[depA];exact Rw _
 | x::xs,h=>by
  rw[depA];exact Nat.max_le.mpr ⟨h x v_,Gx λy hy=>h y (s_ _ hy)⟩
theorem Eg{J:Hp}{M:List D}:∀(L:List (Int×b_)),(∀e∈L,∃d∈M,Stn X J e d)->∃ds zs,IsA X.K J ds zs/\Vals zs (L.map (·.2))/\ds.length=L.length/\(∀d∈ds,d∈M)/\∀e∈L,∃d∈ds,Stn X J e d
 | [],_=>⟨[],[],IsA.nil,.nil,rfl,λd hd=>(by cases hd),λe he=>(by cases he)⟩
 | e::L,h=>by
  obtain⟨ds,zs,a1,a2,a3,a4,a5⟩:=Eg L λe he=>h e (s_ _ he)
  obtain⟨d,m,q⟩:=h e v_;obtain⟨_,x,q1,q2⟩:=id q;refine⟨d::ds,x::zs,IsA.cons q1 a1,.cons q2 a2,by simp[a3],λd' bS=>?_,λe' fm=>?_⟩
  ·rcases A_.mp bS with z | z
   ·rw[z];exact m
   ·exact a4 d' z
  ·rcases A_.mp fm with z | z
   ·rw[z];exact⟨d,v_,q⟩
   ·obtain⟨d',m',q'⟩:=a5 e' z;exact⟨d',s_ _ m',q'⟩
theorem Oa(hu:X.A.units+100 < Sa)(hh:X.A.handled=none)(I:Inv X aa U H s){p:g_}(hJ:∀d x,Is X.K J d x->Is X.K H d x)(hq:SqL X.K H p zs)(ha:IsA X.K J ds zs)(ok:SetOk ds)(kd:ds.all fstI=true\/ds.all fstT=true){Q:VK}(k:∀l ei,IsA X.K J (sortD (dd ds)) ei->H l=none->Q (.ref l) (upd H l (.lst ei))):
  m_ (l_ X.prog X.w) X.A (call (.type "set") [.ref p]) (λv s'=>m_ (l_ X.prog X.w) X.A (call (.builtin "sorted") [v]) (EP X aa U Q) X.xe s') X.xe s:=by
 obtain⟨ac,rv,t,hz⟩:=I.list hq;refine LO I hh t.isList hJ ha rv ok (by omega) λS s' es ex le sa eo=>?_
 have I':=ex.inv I;obtain⟨cm,ky,ti,dp,few⟩:=ok;obtain⟨o,ep,tb,ho,hc,hd,T,led⟩:=sa
 obtain⟨eF,ei,a1,a2,a3,a4,a5⟩:=Eg (X:=X) (J:=J) (M:=dd ds) (walkOf X.w S ep es).toList λe he=>eo.2.1 e (by
  have:=(Br X.w S ep es).mem_iff.mp he
  simpa using this)
 have tt:∀d∈dd ds,isT d=true:=λd hd=>t_.mp ti _ (xq hd)
 have pm:(dd ds).Perm eF:=by
  refine Fi _ _ (JV ds) (λd hd=>?_) (by rw[a3,RD,Aa,eo.1];exact x_ _);obtain⟨e,m,q⟩:=eo.2.2 d hd;obtain⟨d',m',q'⟩:=a5 e ((Br X.w S ep es).mem_iff.mpr (by simpa using m));have:=Stn.det I' (by have:=vy (xq hd);omega) (by have:=vy (xq (a4 d' m'));omega) (tt d hd) (tt d' (a4 d' m')) (q.up hJ) (q'.up hJ);rw[this];exact m'
 have sub:∀d∈eF,d∈ds:=λd hd=>xq (a4 d hd)
 have jP:cmAll eF=true:=t_.mpr λa rF=>t_.mpr λb rG=>t_.mp (t_.mp cm a (sub a rF)) b (sub b rG)
 have rH:IsA X.K H eF ei:=IsA.up hJ a1;refine GR hu I' rH a2 ⟨by have:=pm.length_eq;omega,jP,z_ (Gx λx hx=>vy (sub x hx)) (by omega),?_⟩ (λQ' q=>M7 (A:=X.A.in1) (by exact hh) T led ⟨o,ho,hc,hd⟩ q) λl q hp e hl=>k l _ ?_ hl
 ·rcases kd with z | z
  ·exact .inr (.inl (t_.mpr λx hx=>t_.mp z x (sub x hx)))
  ·exact .inr (.inr (t_.mpr λx hx=>t_.mp z x (sub x hx)))
 ·rw[←HG pm.symm jP,←e];exact a1.perm hp
end
section
variable{B:BB}{kr:Nat}
def rSS(X:Cx)(xs:List V)(H:Hp)(Q:VK):Prop:=∃(p:g_) (zs:List V) (ds:List D) (J:Hp),xs=[.ref p]/\SqL X.K H p zs/\IsA X.K J ds zs/\(∀d x,Is X.K J d x->Is X.K H d x)/\SetOk ds/\(ds.all fstI=true\/ds.all fstT=true) ∧
 ∀l ei,IsA X.K J (sortD (dd ds)) ei->H l=none->Q (.ref l) (upd H l (.lst ei))
theorem Nd{p:Pos}{t:TA}(hr:Room kr X.A)(hg:Gl X "sorted")(hm:X.mg "sorted"=none)(mK:Gl X "set")(fW:X.mg "set"=none)(ha:PA X [e] t)(he:f_ [e] X.env=(false,eval e X.env)::f_ [] X.env:=by rfl)(fm:f_ [.Call (.Name "set" p') [e] [] aC] X.env=(false,eval (.Call (.Name "set" p') [e] [] aC) X.env)::f_ [] X.env:=by rfl)(aB:∀pos,(P_ pos (f_ [] X.env)).any (·.1)=false:=by intros;rfl):
  PE X (.Call (.Name "sorted" p) [.Call (.Name "set" p') [e] [] aC] [] pos) (tCB (rSS X) t):=by
 intro aa s U H Q I h;refine Rs (v3 I hg hm boot_sorted (TB ?_ fm (aB _)) (by decide) (by decide));rw[fm];refine S2 (Rs (v3 I mK fW boot_set (Rb ?_ he (aB _)) (by decide) (by decide)));refine thn (ha aC aa s U H _ I h) λus s1 ⟨vs,H1,I1,r1,p,zs,ds,J,e1,q1,q2,q3,q4,q5,q6⟩=>?_
 subst e1;obtain⟨u,rfl,ru⟩:=vals1 r1;cases ru;exact thn (Oa (hu100 hr) hr.hd I1 q3 q1 q2 q4 q5 q6) λv s2 q=>Th q
noncomputable def setF(ds:List D):Option (List D):=match ds with
 | [.lst xs]=>if(cmAll xs=true/\xs.all kyB=true/\xs.all isT=true/\depA xs<=8/\(dd xs).length<=18)/\(xs.all fstI=true\/xs.all fstT=true) then some (sortD (dd xs)) else none
 | _=>none
theorem Ls{p:Pos}{t:M (List D)}(hr:Room kr X.A)(hg:Gl X "sorted")(hm:X.mg "sorted"=none)(mK:Gl X "set")(fW:X.mg "set"=none)(ha:AD X B [e] t)(he:f_ [e] X.env=(false,eval e X.env)::f_ [] X.env:=by rfl)(fm:f_ [.Call (.Name "set" p') [e] [] aC] X.env=(false,eval (.Call (.Name "set" p') [e] [] aC) X.env)::f_ [] X.env:=by rfl)(aB:∀pos,(P_ pos (f_ [] X.env)).any (·.1)=false:=by intros;rfl):
  EO X B (.Call (.Name "sorted" p) [.Call (.Name "set" p') [e] [] aC] [] pos) (fn1 setF t):=PE.imp (Nd hr hg hm mK fW ha he fm aB) (CB λds d e B G I H U Γ xs Q r h k=>by
 unfold setF at e;split at e
 ·obtain⟨ok,rfl⟩:=ve e;obtain⟨x,rfl,hx⟩:=h.one;obtain⟨q,zs,rfl,h3,h4⟩:=u5 hx;exact⟨q,zs,_,I,rfl,(Same.rdK r.iH h3).sq,h4,λd x hx=>hx.mono r.iH,⟨ok.1.1,ok.1.2.1,ok.1.2.2.1,ok.1.2.2.2.1,by have:=ok.1.2.2.2.2;omega⟩,ok.2,λl ei hz hl=>k.new r hl hz⟩
 ·cases e)
end
end DL
namespace DL
open PySem PySem.W PySem.Spec PyProof.Rows L2
section
variable{B:BB}{c:L_}{gb:M Fl}
noncomputable def whlS:Nat->M Bool->M Fl->M Fl
 | 0,_,_=>λ_=>none
 | n+1,c,b=>bnd c λk=>if k=true then bnd b λf=>match f with
   | .nx=>whlS n c b
   | .ct=>whlS n c b
   | .bk=>ret .nx
   | .rt r=>ret (.rt r)
  else ret .nx
theorem Oc(hp:Um (l_ X.prog X.w) X.A X.env X.xe)(hc:TD X B c gc)(hb:SDs X B body gb):SD X B (.While c body [] pos) (whlS n gc gb):=PS.imp (Ic hp hc hb) λE U H q=>by
 obtain⟨G,I,Γ,f,ae,r,e1,k⟩:=q;refine⟨λm U H=>∃I2 Γ2,Rep X.K B G I2 H U Γ2/\Grow G I I2/\whlS m gc gb Γ2=some (f,ae),⟨n,I,Γ,r,Grow.refl _ _,e1⟩,?_⟩;rintro m aQ H2 ⟨I2,Γ2,r2,g2,e2⟩;cases m with
 | zero=>cases e2
 | succ m =>
  obtain⟨b,aI,e3,e4⟩:=uP e2;refine⟨G,I2,Γ2,b,aI,r2,e3,λH3 I3 r3 g3=>?_⟩;cases b with
  | true =>
   rw[if_pos rfl] at e4 ⊢;obtain⟨fl,aJ,e5,e6⟩:=uP e4;refine⟨λai H'=>∃I4,Rep X.K B G I4 H' ai aJ/\Grow G I I4/\(fl=.nx\/fl=.ct),λai H' ⟨I4,r4,g4,hf⟩=>⟨m,Ug m,I4,aJ,r4,g4,?_⟩,G,I3,aI,fl,aJ,r3,e5,λcF H5 I5 r5 g5=>?_⟩
   ·rcases hf with rfl | rfl<;>exact e6
   ·have gg:Grow G I I5:=g2.trans (g3.trans g5);cases fl with
    | nx=>exact⟨I5,r5,gg,.inl rfl⟩
    | ct=>exact⟨I5,r5,gg,.inr rfl⟩
    | bk=>cases e6;exact k cF H5 I5 r5 gg
    | rt v=>cases e6;exact k cF H5 I5 r5 gg
  | false =>
   rw[if_neg i_] at e4 ⊢;cases e4;exact k aQ H3 I3 r3 (g2.trans g3)
end
section
variable{B:BB}{g:M (List D)}
noncomputable def setY(i:Nat)(g:M (List D)):M Fl:=bnd g λd=>bnd (putS i (.fro d)) λ_=>ret .nx
theorem GF{K:PySem.W.Frag}{i:Nat}:∀E U H,tS K B (setY i g) E U H->tAsg (tO K B g) (gName i) E U H:=λE U H q=>by
 obtain⟨G,I,Γ,f,ae,r,e1,k⟩:=q;obtain⟨d1,Γ1,e2,e3⟩:=uP e1;obtain⟨d2,Γ2,e4,e5⟩:=uP e3;cases e5;obtain⟨hl,rfl⟩:=xa e4;exact⟨G,I,Γ,d1,Γ1,r,e2,λp xs H1 I1 r1 g1 h1 h2 h3 h4 h5=>k _ H1 _ ((r1.freeze h1 h2 h4).store (by rw[r1.len];exact hl) ⟨p,xs,rfl,u3,h3,h5.mono (vq h2 _)⟩ (λm=>nomatch m) (λ_ z=>nomatch z)) (g1.trans (growFreeze h2 h3))⟩
theorem HY{i:Nat}{x:Str}(hN:X.N.Nodup)(he:EO X B e g)(hi:X.N[i]?=some x:=by rfl)(hx:locB X.env.scope x=true:=by rfl)(hs:RM e (some (.Name x aC)) pos.line X.env=pure false:=by rfl)(hf:fnB X x=true:=by rfl):SD X B (.Assign [.Name x aC] e pos) (setY i g):=PS.imp (yH hN hi (locI hx) he hs (fnI hf)) GF
noncomputable def froS(j:Nat):M (List D):=λΓ=>match Γ[j]? with
 | some (some (.fro ds))=>some (ds,Γ)
 | _=>none
theorem Ee{j:Nat}(h:froS j Γ=some (ds,ae)):ae=Γ/\Γ[j]?=some (some (.fro ds)):=by
 unfold froS at h;split at h
 ·rename_i e;cases h;exact⟨rfl,e⟩
 ·cases h
noncomputable def cpS(i j:Nat):M Fl:=bnd (froS j) λd=>bnd (putS i (.fro d)) λ_=>ret .nx
theorem Gy{i j:Nat}{x:Str}{p:Pos}(hN:X.N.Nodup)(he:PE X (.Name y p) (tVar j))(hi:X.N[i]?=some x:=by rfl)(hx:locB X.env.scope x=true:=by rfl)(hs:RM (.Name y p) (some (.Name x aC)) pos.line X.env=pure false:=by rfl)(hf:fnB X x=true:=by rfl):SD X B (.Assign [.Name x aC] (.Name y p) pos) (cpS i j):=PS.imp (yH hN hi (locI hx) he hs (fnI hf)) λE U H q=>by
 obtain⟨G,I,Γ,f,ae,r,e1,k⟩:=q;obtain⟨d1,Γ1,e2,e3⟩:=uP e1;obtain⟨d2,Γ2,e4,e5⟩:=uP e3;cases e5;obtain⟨hl,rfl⟩:=xa e4;obtain⟨rfl,bj⟩:=Ee e2;obtain⟨v,h1,h2⟩:=r.slot j _ bj;exact⟨v,h1,k _ H I (r.store (by rw[r.len];exact hl) h2 (λm=>nomatch m) (λ_ z=>nomatch z)) (Grow.refl _ _)⟩
noncomputable def retY(j:Nat):M Fl:=bnd (froS j) λd=>ret (.rt (.fro d))
theorem IM{j:Nat}{p:Pos}(he:PE X (.Name y p) (tVar j)):SD X B (.Return (some (.Name y p)) pos) (retY j):=PS.imp (zX he) λE U H q=>by
 obtain⟨G,I,Γ,f,ae,r,e1,k⟩:=q;obtain⟨d1,Γ1,e2,e3⟩:=uP e1;cases e3;obtain⟨rfl,bj⟩:=Ee e2;obtain⟨v,h1,h2⟩:=r.slot j _ bj;exact⟨v,h1,k U H I r (Grow.refl _ _) v h2⟩
end
section
variable{B:BB}{bA iter:L_}{N':List Str}{ts:M Bool}
theorem Ml{i:Nat}(S:CompScope X.env.scope scope X.N N' m)(hc:X.calm=true)(hN:X.N.Nodup)(hi:ITD X B tg iter it)(hg:∀C s H ex,GD (cxC X scope N' C s H ex) (bUp m B) m tg az)(ht:∀C s H ex,TDs (cxC X scope N' C s H ex) (bUp m B) bg ts)(he:∀C s H ex,ED (cxC X scope N' C s H ex) (bUp m B) bA el)(bC:X.N[i]?=some y:=by rfl)(hy:X.env.scope.names.lookup y=some .local:=by rfl)(iF:RM (.ListComp bA [⟨tg,iter,bg,0⟩] scope pos) (some (.Name y py)) dg.line X.env=pure true:=by rfl)(hs:∀x,Ry iter X.env x=pure x:=by intros;rfl):SD X B (.Assign [.Name y py] (.ListComp bA [⟨tg,iter,bg,0⟩] scope pos) dg) (setY i (compO m it az ts el)):=PS.imp (Ew (g:=tGD X.K (bUp m B) m az) (tt:=tTD X.K (bUp m B) ts) (te:=tD X.K (bUp m B) el) S hc hN bC hy hi hg ht he iF hs) λE U H q=>by
 have z:=GF E U H q;exact BK U H _ z
end
end DL
namespace DL
open PySem
end DL
namespace DL
open PySem PySem.W PySem.Spec PyProof.Rows L2
section
variable{B:BB}{c:L_}{st:Rm}{ss:List Rm}{g h:M Fl}
@[irreducible] def SI(X:Cx)(B:BB)(st:Rm)(g:M Fl):Prop:=SD X B st g
@[irreducible] def SIs(X:Cx)(B:BB)(ss:List Rm)(g:M Fl):Prop:=SDs X B ss g
theorem uO(k:SD X B st g):SI X B st g:=by unfold SI;exact k
theorem z8(k:SIs X B ss g):SDs X B ss g:=by unfold SIs at k;exact k
theorem uY:SIs X B [] (ret .nx):=by unfold SIs;exact Pa
theorem uQ(k:SI X B st g):SIs X B [st] g:=by unfold SI at k;unfold SIs;exact Dk k
theorem tL(k:SI X B st g)(t:SIs X B ss h):SIs X B (st::ss) (seqS g h):=by unfold SI at k;unfold SIs at t ⊢;exact Om k t
theorem uW(hc:TD X B c tc)(ha:SIs X B sa g)(hb:SIs X B sb h):SI X B (.If c sa sb pos) (ifS tc g h):=by unfold SIs at ha hb;unfold SI;exact HZ hc ha hb
theorem vC{iter:L_}(hp:Um (l_ X.prog X.w) X.A X.env X.xe)(hc:X.calm=true)(hi:ITD X B tg iter it)(hg:GD X B m tg az)(hb:SIs X B body g)(hs:∀x,Ry iter X.env x=pure x:=by intros;rfl):SI X B (.For tg iter body [] pos) (forS it az g):=by unfold SIs at hb;unfold SI;exact Nl hp hc hi hg hb hs
theorem KW(hp:Um (l_ X.prog X.w) X.A X.env X.xe)(hc:TD X B c gc)(hb:SIs X B body g):SI X B (.While c body [] pos) (whlS n gc g):=by unfold SIs at hb;unfold SI;exact Oc hp hc hb
theorem uT{i:Nat}{x:Str}(hN:X.N.Nodup)(he:ED X B e ga)(hi:X.N[i]?=some x:=by rfl)(hx:locB X.env.scope x=true:=by rfl)(hs:RM e (some (.Name x aC)) pos.line X.env=pure false:=by rfl)(hf:fnB X x=true:=by rfl):SI X B (.Assign [.Name x aC] e pos) (setV i ga):=by unfold SI;exact Fd hN he hi hx hs hf
end
end DL
namespace DL
open PySem PySem.W PySem.Spec PyProof.Rows L2
open PySem.SeqAt
open PySem.AutoSeq1 (wpAny_loadPart')
open PySem.MeetsSeq PySem.MeetsSeq2 PySem.MeetsSeq3
end DL
namespace DL
open PySem PySem.W PySem.Spec PyProof.Rows L2
end DL
namespace DL
open PySem PySem.W PySem.Spec PyProof.Rows L2
open PySem.SeqAt
open PySem.AutoSeq1 (wpAny_loadPart')
open PySem.MeetsSeq PySem.MeetsSeq2 PySem.MeetsSeq3
noncomputable def isStar:L_->Bool
 | .Starred ..=>true
 | _=>false
theorem NX(h:isStar e=false):f_ (e::aA) env=(false,eval e env)::f_ aA env:=by
 cases e<;>first | rfl | (simp[isStar] at h)
theorem f'{B:BB}{es:List L_}{g:M D}{t:M (List D)}(ha:ED X B e g)(hr:AD X B es t)(h:isStar e=false):AD X B (e::es) (consA g t):=Mc ha hr (NX h)
end DL
namespace DL
open PySem PySem.Spec PyProof.Rows L2
noncomputable def kAll(f:L_->Option (M D)):List L_->Option (M (List D))
 | []=>some nilA
 | e::es=>match f e with
  | some g=>match kAll f es with
   | some t=>some (consA g t)
   | none=>none
  | none=>none
noncomputable def kM:Nat->L_->Option (M D)
 | 0,_=>none
 | n+1,e=>match e with
  | .Constant (.int i) _ _=>some (ret (.int i))
  | .Constant (.bool b) _ _=>some (ret (.bl b))
  | .Constant .none _ _=>some (ret .non)
  | .Constant (.str x) _ _=>some (ret (.str x))
  | .UnaryOp .USub a _=>match kM n a with
   | some g=>some (un1 negI g)
   | none=>none
  | .BinOp a .Pow b _=>match kM n a with
   | some g=>match kM n b with
    | some h=>some (op2 powI g h)
    | none=>none
   | none=>none
  | .Tuple es _ _=>match kAll (kM n) es with
   | some t=>some (tupA t)
   | none=>none
  | .List es _=>match kAll (kM n) es with
   | some t=>some (frz (lstA t))
   | none=>none
  | _=>none
section
variable{B:BB}
theorem Af{f:L_->Option (M D)}(hf:∀e g,f e=some g->ED X B e g/\isStar e=false):∀(es:List L_) (t:M (List D)),kAll f es=some t->AD X B es t
 | [],t,h=>by cases h;exact nH
 | e::es,t,h=>by
  rw[kAll] at h;split at h
  ·rename_i g hg;split at h
   ·rename_i t' ht;cases h;obtain⟨h1,h2⟩:=hf e g hg;exact f' h1 (Af hf es t' ht) h2
   ·cases h
  ·cases h
theorem xw:∀(n:Nat) (e:L_) (g:M D),kM n e=some g->ED X B e g/\isStar e=false
 | 0,_,_,h=>by cases h
 | n+1,e,g,h=>by
  unfold kM at h;split at h
  ·cases h;exact⟨tx,rfl⟩
  ·cases h;exact⟨wb,rfl⟩
  ·cases h;exact⟨wf,rfl⟩
  ·cases h;exact⟨va,rfl⟩
  ·split at h
   ·rename_i g' hg;cases h;exact⟨xP (xw n _ _ hg).1,rfl⟩
   ·cases h
  ·split at h
   ·rename_i g' hg;split at h
    ·rename_i g2 fX;cases h;exact⟨yh (xw n _ _ hg).1 (xw n _ _ fX).1,rfl⟩
    ·cases h
   ·cases h
  ·split at h
   ·rename_i t ht;cases h;exact⟨u4 (Af (xw n) _ _ ht),rfl⟩
   ·cases h
  ·split at h
   ·rename_i t ht;cases h;exact⟨uR (uX (Af (xw n) _ _ ht)),rfl⟩
   ·cases h
  ·cases h
theorem vA{e1 e2 e3 e4:L_}{es:List L_}{g1 g2 g3 g4:M D}{t:M (List D)}(h1:ED X B e1 g1)(h2:ED X B e2 g2)(h3:ED X B e3 g3)(h4:ED X B e4 g4)(hr:AD X B es t)(s1:isStar e1=false)(s2:isStar e2=false)(s3:isStar e3=false)(s4:isStar e4=false):AD X B (e1::e2::e3::e4::es) (consA g1 (consA g2 (consA g3 (consA g4 t)))):=
 f' h1 (f' h2 (f' h3 (f' h4 hr s4) s3) s2) s1
theorem ad_k{es:List L_}{t:M (List D)}(h:kAll (kM 9) es=some t):AD X B es t:=Af (xw 9) es t h
end
end DL
namespace DL
open PySem PySem.W PySem.Spec PyProof.Rows L2 PySem.SetTable
section
variable{B:BB}{kr:Nat}
theorem Bz:∀{ns:List Int}{ac:List b_},Vals (ns.map V.int) ac->UD ac ns
 | [],ac,h=>by cases h;exact .nil
 | n::ns,ac,h=>by
  cases h with
  | cons h1 h2=>obtain⟨t,rfl⟩:=h1;exact .cons _ _ (Bz h2)
noncomputable def intsD:List D->Option (List Int)
 | []=>some []
 | .int i::ds=>match intsD ds with
  | some ns=>some (i::ns)
  | none=>none
 | _=>none
theorem Bi:∀{ds:List D}{ns:List Int},intsD ds=some ns->ds=ns.map D.int
 | [],ns,h=>by cases h;rfl
 | d::ds,ns,h=>by
  cases d<;>try cases h
  rename_i i;rw[intsD] at h;cases e:intsD ds with
  | none=>rw[e] at h;cases h
  | some ms=>rw[e] at h;cases h;rw[Q7,←Bi e]
theorem B8:∀(ns:List Int),intsD (ns.map D.int)=some ns
 | []=>rfl
 | n::ns=>by rw[Q7,intsD,B8 ns]
theorem BR{K:PySem.W.Frag}{I:Hp}:∀{ns:List Int}{zs:List V},IsA K I (ns.map D.int) zs->zs=ns.map V.int
 | [],zs,h=>h.nil_inv
 | n::ns,zs,h=>by
  obtain⟨x,r,rfl,h1,h2⟩:=IsA.cons_inv h;rw[BR h2,uZ h1];rfl
variable{a b c c':L_}{gb gc gd:M D}
end
theorem A0:∀{vs:List b_}{ns:List Int}{i:Nat}{v:b_},UD vs ns->vs[i]?=some v->∃x t,ns[i]?=some x/\v=.int x t
 | _,_,i,v,.nil,h=>by simp at h
 | _,_,0,v,.cons _ _ r,h=>by cases h;exact⟨_,_,rfl,rfl⟩
 | _,_,i+1,v,.cons _ _ r,h=>by
  rw[RP] at h;obtain⟨x,t,h1,h2⟩:=A0 r h;exact⟨x,t,by rw[RP];exact h1,h2⟩
end DL
namespace DL
open PySem PySem.W PySem.Spec PyProof.Rows L2
noncomputable def mx(m y:Int):Int:=if m < y then y else m
noncomputable def maxI(d:Int):List Int->Int
 | []=>d
 | x::xs=>xs.foldl mx x
theorem Hy(d:Int)(ne:ns≠[])(y:Int):maxI d (ns++[y])=mx (maxI d ns) y:=by
 match ns,ne with
 | x::xs,_=>simp[maxI,Vk]
section
variable{prog:u_}{w:C_}{E:b_->c_->Prop}{s:c_}
theorem Ci{id:String}{b:RV}{args:List b_}{Q:b_->c_->Prop}(hk:WG id=none)(hp:plainId id=true)(hb:W4 table id=some b)(ha:Wc id ⟨args,kw⟩)(hc:m_ (l_ prog w) A.in1 (b ⟨args,kw⟩) (λr s'=>match r with
   | .again d=>d.quiet=true/\RS (l_ prog w) A d (Xl Q E) s'
   | .done f=>Xl Q E (.ok f) s') E s):m_ (l_ prog w) A (call (.builtin id) args kw) Q E s:=by
 have ck:Sh id ⟨args,kw⟩=pure ():=by
  unfold Wc at ha;unfold Sh;rw[hk]
  revert ha
  cases Manifest.signature? id with
  | none=>exact λ_=>rfl
  | some sg=>exact λha=>ha
 refine S3 (RK hp hb (RN ck ?_));exact Q9 hc (λr s' h=>by cases r<;>exact h) λ_ _ h=>h
def CellsI(d:Int)(ns:List Int)(j:Nat)(cells:Array b_):Prop:=match j with
 | 0=>cells=#[]
 | j+1=>∃t,cells=#[.int (maxI d (ns.take (j+1))) t,.int (maxI d (ns.take (j+1))) t]
end
section
variable{B:BB}{a b:L_}{gb:M D}{kr:Nat}
noncomputable def txt(i:Int):Str:=Sc (toString i)
theorem De(d:Str):Str.empty++d=d:=by
 cases d with | mk a=>show(⟨#[]++a⟩:Str)=⟨a⟩;simp
end
section
variable{B:BB}{p p1:Pos}{kr:Nat}
inductive KX(X:Cx):List L_->M (List D)->Prop
 | nil:KX X [] nilA
 | int {i:Int} {a b es t}:KX X es t->KX X (.Constant (.int i) a b::es) (consA (ret (.int i)) t)
 | bl {i:Bool} {a b es t}:KX X es t->KX X (.Constant (.bool i) a b::es) (consA (ret (.bl i)) t)
 | non {a b es t}:KX X es t->KX X (.Constant .none a b::es) (consA (ret .non) t)
 | str {i:Str} {a b es t}:KX X es t->KX X (.Constant (.str i) a b::es) (consA (ret (.str i)) t)
 | neg {i:Int} {a b p es t}:KX X es t->KX X (.UnaryOp .USub (.Constant (.int i) a b) p::es) (consA (un1 negI (ret (.int i))) t)
 | pow {i j:Int} {a b a' b' p es t}:KX X es t->KX X (.BinOp (.Constant (.int i) a b) .Pow (.Constant (.int j) a' b') p::es) (consA (op2 powI (ret (.int i)) (ret (.int j))) t)
 | nm {z p i es t}:PE X (.Name z p) (tVar i)->KX X es t->KX X (.Name z p::es) (consA (nm i) t)
 | ix {z p i k j a b a' b' p1 p2 es t}:PE X (.Name z p) (tVar i)->KX X es t->KX X (.Subscript (.Subscript (.Name z p) (.Constant (.int k) a b) p1) (.Constant (.int j) a' b') p2::es) (consA (op2 ixF (op2 ixF (nm i) (ret (.int k))) (ret (.int j))) t)
 | tup {fs u x p es t}:KX X fs u->KX X es t->KX X (.Tuple fs x p::es) (consA (tupA u) t)
 | lst {fs u p es t}:KX X fs u->KX X es t->KX X (.List fs p::es) (consA (frz (lstA u)) t)
theorem KX.ad{es:List L_}{t:M (List D)}(h:KX X es t):AD X B es t:=by
 induction h with
 | nil=>exact nH
 | int _ ih=>exact f' tx ih rfl
 | bl _ ih=>exact f' wb ih rfl
 | non _ ih=>exact f' wf ih rfl
 | str _ ih=>exact f' va ih rfl
 | neg _ ih=>exact f' (xP tx) ih rfl
 | pow _ ih=>exact f' (yh tx tx) ih rfl
 | nm h _ ih=>exact f' (zg h) ih rfl
 | ix h _ ih=>exact f' (t5 (t5 (zg h) tx) tx) ih rfl
 | tup _ _ ih1 ih2=>exact f' (u4 ih1) ih2 rfl
 | lst _ _ ih1 ih2=>exact f' (uR (uX ih1)) ih2 rfl
end
end DL
namespace DL
open PySem PySem.Spec PyProof.Rows L2 PySem.W
theorem objThere{P:u_}{w:C_}{H:Hp}{a:g_}:∀{o:HO},ObjOk P w H h a o->∃u,h.get? a=some u
 | .lst _,⟨_,_,_,_,e⟩=>⟨_,e⟩
 | .tup _,⟨_,_,_,_,e,_⟩=>⟨_,e⟩
 | .dK _,⟨_,_,_,_,_,_,_,e,_⟩=>⟨_,e⟩
 | .dT _,⟨_,_,_,_,_,_,_,e,_⟩=>⟨_,e⟩
 | .set _ _,⟨_,_,_,_,e,_⟩=>⟨_,e⟩
 | .ins _ _ _,⟨_,_,_,e,_⟩=>⟨_,e⟩
 | .own _,⟨_,e⟩=>⟨_,e⟩
 | .xd _,⟨_,⟨_,_,_,e,_⟩,_⟩=>⟨_,e⟩
 | .rng _ _,⟨_,_,_,e⟩=>⟨_,e⟩
 | .frz _ _,⟨e,_⟩=>⟨_,e⟩
 | .tbl _,x=>by first | exact⟨_,x⟩ | (obtain⟨_,e,_⟩:=x;exact⟨_,e⟩)
 | .met _ _,e=>⟨_,e⟩
 | .ext _,⟨_,e,_⟩=>e
def Lasts(h h':K_):Prop:=∀b o,h.get? b=some o->∃o',h'.get? b=some o'
theorem Lasts.none{h h':K_}(l:Lasts h h'){b:g_}(e:h'.get? b=none):h.get? b=none:=by
 cases z:h.get? b with
 | none=>rfl
 | some o=>obtain⟨_,q⟩:=l b o z;rw[e] at q;cases q
def Flies(H:Hp)(h₀ h:K_)(a C:g_):Prop:=∃oe vs a0,h.get? a=some oe/\oe.cls=.ref C/\oe.data=.fields vs/\vs[0]?=some a0/\H a=none/\h₀.get? a=none ∧
 (vs[1]?=some .none\/∃T oT ts,vs[1]?=some (.ref T)/\T≠a/\h.get? T=some oT/\oT.data=.fields ts/\3 < ts.size/\H T=none/\h₀.get? T=none)
theorem Flies.back{H:Hp}{a:g_}(F:Flies H h₀ h a C)(l:Lasts h₁ h₀):Flies H h₁ h a C:=by
 obtain⟨oe,vs,a0,e1,e2,e3,e4,e5,e6,e7⟩:=F;refine⟨oe,vs,a0,e1,e2,e3,e4,e5,l.none e6,e7.imp id ?_⟩;rintro⟨T,oT,ts,f1,f2,f3,f4,f5,f6,f7⟩;exact⟨T,oT,ts,f1,f2,f3,f4,f5,f6,l.none f7⟩
structure Turn(H:Hp)(h₀ h h':K_)(fr ch:List g_):Prop where
 new:∀b∈ch,H b=none/\h₀.get? b=none/\∃o vs,h.get? b=some o/\o.data=.fields vs
 keep:∀b o,h.get? b=some o->b∉ch->b∉fr->h'.get? b=some o
 slot:∀b o,h.get? b=some o->b∈fr->∃sl,h'.get? b=some { o with slots:=sl }
section
variable{P:u_}{w:C_}{H:Hp}{l:List Env}{a:g_}{a0:b_}
theorem zP(hl:h.FunFrames base l)(new:∀b∈ch,H b=none/\h₀.get? b=none/\∃o vs,h.get? b=some o/\o.data=.fields vs)(st:(Uj h (ch++frs l)).StaysIn h')(up:h.UpToSlots h'):Turn H h₀ h h' (frs l) ch:=
 ⟨new,λb o e n1 n2=>st b o (WH _ e λm=>(Q8.mp m).elim n1 n2),λb o e m=>up b o e (by
  obtain⟨_,o',e',d⟩:=hl.mem m;rw[e] at e';cases e'
  exact d)⟩
theorem AV(hok:HOk P w H h)(th:Lasts h₀ h)(hl:h.FunFrames base l)(T:Turn H h₀ h h' (frs l) ch)(ha:a∈ch)(t:h'.TracedAtW (Uj h (ch++frs l)) a (.ref C) a0 fl):Flies H h₀ h' a C:=by
 obtain⟨oe,vs,T',oT,ts,e1,⟨e2,e3⟩,e4,e5,e6,e7,e8,e9,mL⟩:=t
 have q:H T'=none/\h₀.get? T'=none:=by
  by_cases m:T'∈ch
  ·exact⟨(T.new _ m).1,(T.new _ m).2.1⟩
  by_cases m2:T'∈frs l
  ·exfalso
   obtain⟨_,o,eo,d⟩:=hl.mem m2;obtain⟨sl,es⟩:=T.slot _ _ eo m2;rw[e8] at es;cases es;exact d ts e9
  have n:h.get? T'=none:=by
   cases z:h.get? T' with
   | none=>rfl
   | some o=>rw[WH _ z λq=>(Q8.mp q).elim m m2] at e6;cases e6
  refine⟨?_,th.none n⟩;cases z:H T' with
  | none=>rfl
  | some o=>obtain⟨u,z2⟩:=objThere (hok _ _ z);rw[n] at z2;cases z2
 exact⟨oe,vs,a0,e1,e2,e4,e3,(T.new a ha).1,(T.new a ha).2.1,.inr ⟨T',oT,ts,e5,e7,e8,e9,(E_.mp mL).1,q.1,q.2⟩⟩
theorem At(hl:h.FunFrames base l):h.FunFrames (Uj h (ch++frs l)) l:=funFrames_hide hl λenv he b hb=>Q1 _ (SU.mpr ⟨env,he,hb⟩)
variable{M:WB}{E:b_->c_->Prop}{s:c_}{Q:Unit->c_->Prop}{outer:List Env}{L:g_}
theorem EQ(gX:A.frames=some (env::outer))(hf:env.frame=some L)(hl:s.heap.FunFrames base (env::outer))(hok:HOk P w H s.heap)(th:Lasts h₀ s.heap)(F:Flies H h₀ s.heap a C)(k:∀h' ch a0 fl,a∈ch->Turn H h₀ s.heap h' (frs (env::outer)) ch->(Uj s.heap (ch++frs (env::outer))).StaysIn h'->h'.FunFrames (Uj s.heap (ch++frs (env::outer))) (env::outer)->h'.TracedAtW (Uj s.heap (ch++frs (env::outer))) a (.ref C) a0 fl->Q () { s with heap:=h' }):m_ M A (VT (.ref a) env) Q E s:=by
 obtain⟨oe,vs,a0,e1,e2,e3,e4,e5,e6,e7⟩:=F
 rcases e7 with e7 | ⟨T,oT,ts,f1,f2,f3,f4,f5,f6,f7⟩
 ·unfold VT;simp only[hf];refine a_ (Rt e1 e3 e7 ?_);rw[if_neg (by decide)];refine wpAny_entryW (base:=Uj s.heap ([a]++frs (env::outer))) gX (At hl) hf e1 (λb o q=>Vl _ q) (Uk _ (.head _)) e3 (E_.mp e7).1 e4 λh' hN=>?_
  obtain⟨k1,k2,k3,k4⟩:=hN;rw[e2] at k3;exact k h' [a] a0 _ (.head _) (zP hl (λb hb=>by rw[q_.mp hb];exact⟨e5,e6,_,_,e1,e3⟩) k1 k4) k1 k2 k3
 have new:∀b∈[a,T],H b=none/\h₀.get? b=none/\∃o vs,s.heap.get? b=some o/\o.data=.fields vs:=λb hb=>by
  rcases A_.mp hb with z | z
  ·rw[z];exact⟨e5,e6,_,_,e1,e3⟩
  ·rw[q_.mp z];exact⟨f6,f7,_,_,f3,f4⟩
 have f8:ts[3]?=some ts[3]:=k_ f5;unfold VT;simp only[hf];refine a_ (Rt e1 e3 f1 ?_);rw[if_pos (show(b_.ref T != b_.none)=true by simp)];refine a_ (Rt f3 f4 f8 ?_);by_cases hz:(ts[3] == R9 L)=true
 ·rw[if_pos hz];exact d_ (k s.heap [a,T] a0 ts[3] (.head _) (zP hl new (λb o q=>Vl _ q) (.refl _)) (λb o q=>Vl _ q) (At hl) ⟨oe,vs,T,oT,ts,e1,⟨e2,e4⟩,e3,f1,Uk _ (.tail _ (.head _)),f2,f3,f4,f8⟩)
 rw[if_neg hz];refine a_ (Se f3 f4 f5 ?_);have cG:∀b,b≠T->(s.heap.update T (U7 (·.setIfInBounds 3 b_.none))).get? b=s.heap.get? b:=λb hb=>B_ _ _ (QW hb)
 have oX:∀b o,s.heap.get? b=some o->(∀vs,o.data≠.fields vs)->b≠T:=λb o q n z=>by
  rw[z,f3] at q;cases q;exact n ts f4
 refine wpAny_entryW (base:=Uj s.heap ([a,T]++frs (env::outer))) (oe:=oe) gX ((At hl).of_keeps λb o q n=>⟨o,(cG b (oX b o q n)).trans q,rfl⟩) hf ((cG a (QW f2)).trans e1) (λb o q=>(cG b λz=>by have n:(Uj s.heap ([a,T]++frs (env::outer))).get? T=none:=Uk _ (.tail _ (.head _));rw[z,n] at q;cases q).trans (Vl _ q)) (Uk _ (.head _)) e3 (E_.mp f1).1 e4 λh' hN=>?_
 obtain⟨k1,k2,k3,k4⟩:=hN;rw[e2] at k3;exact k h' [a,T] a0 _ (.head _) (zP hl new k1 λb o q n=>k4 b o ((cG b (oX b o q n)).trans q) n) k1 k2 k3
theorem GO(gX:A.frames=some (env::outer))(hf:env.frame=some L)(hl:s.heap.FunFrames base (env::outer))(hok:HOk P w H s.heap)(th:Lasts h₀ s.heap)(F:Flies H h₀ s.heap a C)(k:∀h' ch,Turn H h₀ s.heap h' (frs (env::outer)) ch->Flies H h₀ h' a C->Q () { s with heap:=h' }):m_ M A (VT (.ref a) env) (λ_ au=>m_ M A (WA (.ref a) none) Q E au) E s:=by
 refine EQ gX hf hl hok th F λh1 ch a0 fl ha T k1 k2 k3=>?_
 refine Vu k1 k2 k3 λh2 j1 j2 j3 j4=>?_
 have T2:Turn H h₀ s.heap h2 (frs (env::outer)) ch:=⟨T.new,λb o e n1 n2=>j1 b o (WH _ e λm=>(Q8.mp m).elim n1 n2),λb o e m=>by
  obtain⟨sl,q⟩:=T.slot b o e m;obtain⟨_,o',e',d⟩:=hl.mem m;rw[e] at e';cases e'
  exact⟨sl,j4 b _ q d⟩⟩
 exact k h2 ch T2 (AV hok th hl T2 ha j3)
theorem O'(gX:A.frames=some (env::outer))(hf:env.frame=some L)(hl:s.heap.FunFrames base (env::outer))(hok:HOk P w H s.heap)(th:Lasts h₀ s.heap)(F:Flies H h₀ s.heap a C)(k:∀h' ch,Turn H h₀ s.heap h' (frs (env::outer)) ch->Flies H h₀ h' a C->Q () { s with heap:=h' }):m_ M A (leaving env (.ref a)) Q E s:=by
 unfold leaving;exact a_ (GO gX hf hl hok th F k)
end
noncomputable def CXX(P:u_)(w:C_):CXT:=λouter H s E e s'=>∃a C H',e=.ref a/\s'.os=s.os/\Tf s'.gens/\Un (frs outer) [] H H' s.heap s'.heap/\HOk P w H' s'.heap/\Flies H' s.heap s'.heap a C/\E (.ref C) none H'
def Xz(X:Cx)(C:g_)(U:L2.St)(H:Hp):Prop:=∀aa s h₁ a,Inv X aa U H s->(∀b o,X.s₀.heap.get? b=some o->b∉X.ex->∃o',h₁.get? b=some o')->(∀p∈X.pn++aa,∃o,h₁.get? p.1=some o)->Lasts h₁ s.heap->Flies H h₁ s.heap a C->X.xe (.ref a) s
theorem Turn.hok{H:Hp}{s:c_}(T:Turn H h₀ s.heap h' (frs X.stack) ch)(I:Inv X aa U H s):HOk X.prog X.w H h':=λb u e=>by
 have no:∀c v,H c=some v->c∉ch/\c∉frs X.stack:=λc v q=>⟨λm=>(by rw[(T.new c m).1] at q;cases q),λm=>(by rw[I.stkFree c m] at q;cases q)⟩
 refine(I.hok b u e).stay (λc v hc q=>?_) (λ_ q=>q) (λ_ _ q=>q) (λ_ _ _ q=>q)
 rcases hc with rfl | z
 ·exact T.keep c v q (no c u e).1 (no c u e).2
 ·exact T.keep c v q (no c _ z).1 (no c _ z).2
section
variable{P:u_}{w:C_}{K:PySem.W.Frag}{ak:b_}{outer:List Env}{s:c_}{H:Hp}{E:XK}
theorem Oq(he:E (.ref C) none H'):Xz (cxOf (CXX P w) P w K mg base N qual scope f ak A outer s H E) C U H':=λaa s1 h₁ a I c1 c2 c3 F=>by
 refine O' I.ok.frames rfl I.stack I.hok c3 F λh' ch T F'=>?_
 have oY:Lasts s.heap h₁:=λb o e=>c1 b o e (λz=>nomatch z)
 have cL:∀b o,s.heap.get? b=some o->b∉ch:=λb o e m=>by
  obtain⟨_,q⟩:=oY b o e;rw[(T.new b m).2.1] at q;cases q
 have mM:∀b o,s.heap.get? b=some o->b∉frs outer->b∉frs (SR qual scope s.heap.objs.size f ak::outer):=λb o e n m=>by
  rcases A_.mp (I.stkSub b m) with z | z
  ·exact absurd (w_ e) (by rw[z];exact RZ _)
  ·exact n z
 refine⟨a,C,H',rfl,I.os,I.bare,⟨λb o e n hb _=>T.keep b o (I.base.keep b o e n hb (λz=>nomatch z)) (cL b o e) (mM b o e hb),λb o e n hb _=>?_,λb o e n _=>I.base.free b o e n (λz=>nomatch z),λb o e _=>?_,I.base.tups,I.base.frzs,?_⟩,T.hok I,F'.back oY,he⟩
 ·obtain⟨sl,e1⟩:=I.base.slot b o e n hb (λz=>nomatch z);obtain⟨lq,e2⟩:=T.slot b _ e1 (by unfold frs;rw[SH];exact s_ _ hb);exact⟨lq,e2⟩
 ·obtain⟨o',e1⟩:=I.base.there b o e (λz=>nomatch z);by_cases m:b∈frs (SR qual scope s.heap.objs.size f ak::outer)
  ·obtain⟨sl,e2⟩:=T.slot b _ e1 m;exact⟨_,e2⟩
  ·exact⟨_,T.keep b _ e1 (cL b o e) m⟩
 ·exact I.base.tbls
end
noncomputable def tX(X:Cx)(B:BB)(cl:Nat->g_)(m:M Nat):TE:=λU H _=>∃G I Γ C ae,Rep X.K B G I H U Γ/\m Γ=some (C,ae)/\∀H' I',Rep X.K B G I' H' U ae->Grow G I I'->Xz X (cl C) U H'
noncomputable def tSX(X:Cx)(B:BB)(cl:Nat->g_)(m:M Nat):TS:=λ_ U H=>∃G I Γ C ae,Rep X.K B G I H U Γ/\m Γ=some (C,ae)/\∀ai H' I',Rep X.K B G I' H' ai ae->Grow G I I'->Xz X (cl C) ai H'
def XD(X:Cx)(B:BB)(cl:Nat->g_)(e:L_)(m:M Nat):Prop:=PE X e (tX X B cl m)
def SX(X:Cx)(B:BB)(cl:Nat->g_)(st:Rm)(m:M Nat):Prop:=PS X st (tSX X B cl m)
def SXs(X:Cx)(B:BB)(cl:Nat->g_)(st:List Rm)(m:M Nat):Prop:=PSs X st (tSX X B cl m)
noncomputable def orX(a b:M Nat):M Nat:=λΓ=>match a Γ with
 | some r=>some r
 | none=>b Γ
noncomputable def thenX(g:M Fl)(m:M Nat):M Nat:=bnd g λf=>match f with
 | .nx=>m
 | _=>λ_=>none
noncomputable def nvX:M Nat:=λ_=>none
theorem EE{B:BB}{cl:Nat->g_}{E:Ends}{H:Hp}(q:tSX X B cl nvX E U H):False:=by obtain⟨_,_,_,_,_,_,e,_⟩:=q;cases e
section
variable{B:BB}{cl:Nat->g_}{st:Rm}{aA:List Rm}{g:M Fl}{m:M Nat}{es:List L_}
theorem JP:SX X B cl st nvX:=λ_ _ _ _ _ _ q=>(EE q).elim
theorem OI:SXs X B cl aA nvX:=λ_ _ _ _ _ _ q=>(EE q).elim
theorem OA(h:SX X B cl st m):SXs X B cl [st] m:=B5 h
theorem GK(h:SD X B st g)(h1:SX X B cl st m)(h2:SXs X B cl aA m'):SXs X B cl (st::aA) (orX m (thenX g m')):=by
 have hh:PS X st λD U H=>tS X.K B g D U H\/tSX X B cl m D U H:=λaa s U H D I q=>q.elim (h aa s U H D I) (h1 aa s U H D I)
 refine PSs.imp (zx hh h2) λE U H q=>?_
 obtain⟨G,I,Γ,C,ae,r,e1,k⟩:=q;unfold orX at e1;cases z:m Γ with
 | some y=>rw[z] at e1;cases e1;exact .inr ⟨G,I,Γ,C,ae,r,z,k⟩
 | none =>
  rw[z] at e1;obtain⟨f,Γ1,e2,e3⟩:=uP e1;refine .inl ⟨G,I,Γ,f,Γ1,r,e2,λcB H1 I1 r1 g1=>?_⟩;cases f with
  | nx=>exact⟨G,I1,Γ1,C,ae,r1,e3,λai H' I' r' g'=>k ai H' I' r' (g1.trans g')⟩
  | rt _=>cases e3
  | bk=>cases e3
  | ct=>cases e3
noncomputable def ifX(c:M Bool)(a b:M Nat):M Nat:=bnd c λk=>if k then a else b
theorem Kf{c:L_}(hc:TD X B c tc)(ha:SXs X B cl sa m)(hb:SXs X B cl sb m'):SX X B cl (.If c sa sb pos) (ifX tc m m'):=PS.imp (EU hc ha hb) λE U H q=>by
 obtain⟨G,I,Γ,C,ae,r,e1,k⟩:=q;obtain⟨d,Γ1,e2,e3⟩:=uP e1;refine⟨G,I,Γ,d,Γ1,r,e2,λH1 I1 r1 g1=>?_⟩;cases d with
 | true=>exact iteT ⟨G,I1,Γ1,C,ae,r1,e3,λai H' I' r' g'=>k ai H' I' r' (g1.trans g')⟩
 | false=>exact iteF ⟨G,I1,Γ1,C,ae,r1,e3,λai H' I' r' g'=>k ai H' I' r' (g1.trans g')⟩
theorem tSX.tX{E:Ends}{H:Hp}{Q:VK}(q:tSX X B cl m E U H):DL.tX X B cl m U H Q:=by
 obtain⟨G,I,Γ,C,ae,r,e1,k⟩:=q;exact⟨G,I,Γ,C,ae,r,e1,λH' I'=>k U H' I'⟩
theorem wU(he:XD X B cl e m)(hs:RM e none pos.line X.env=pure false:=by rfl):SX X B cl (.Expr e pos) m:=PS.imp (ym he hs) λ_ _ _ q=>q.tX
theorem wj(he:XD X B cl e m):SX X B cl (.Return (some e) pos) m:=PS.imp (zX he) λ_ _ _ q=>q.tX
theorem A6{i:Nat}{x:Str}(hN:X.N.Nodup)(he:XD X B cl e m)(hi:X.N[i]?=some x:=by rfl)(hx:locB X.env.scope x=true:=by rfl)(hs:RM e (some (.Name x aC)) pos.line X.env=pure false:=by rfl)(hf:fnB X x=true:=by rfl):SX X B cl (.Assign [.Name x aC] e pos) m:=PS.imp (yH hN hi (locI hx) he hs (fnI hf)) λ_ _ _ q=>q.tX
noncomputable def spE(K:PySem.W.Frag)(cl:Nat->g_)(gx:List D->Option Nat):Sp:=λvs H _ E=>∃I ds C,Same I H/\IsA K I ds vs/\gx ds=some C/\∀H',Same H H'->E (.ref (cl C)) none H'
noncomputable def fnX(gx:List D->Option Nat)(t:M (List D)):M Nat:=bnd t λds=>lft (gx ds)
theorem NV{k:Nat}{gx:List D->Option Nat}{x:Str}{p:Pos}{t:M (List D)}(F:FnOk X.prog X.w X.K X.mg X.base (CXX X.prog X.w) k f fd ps (spE X.K cl gx))(hr:Room k X.A)(hg:Gl X x)(hm:X.mg x=some (.ref f))(hk:W5 X.K (.ref f)=true)(hb:Binds X.K fd ps [])(ha:AD X B (e::es) t)(bi:(x == ("__debug__":Str))=false:=by decide)(he:f_ (e::es) X.env=(false,eval e X.env)::f_ es X.env:=by rfl)(aB:(P_ pos (f_ es X.env)).any (·.1)=false:=by rfl):
  XD X B cl (.Call (.Name x p) (e::es) [] pos) (fnX gx t):=by
 intro aa s U H Q I h;obtain⟨G,J,Γ,C,ae,r,e1,kk⟩:=h;obtain⟨ds,Γ1,e2,e3⟩:=uP e1;obtain⟨e4,rfl⟩:=u6 e3;refine Rs (wE I hg hm ?_ bi);refine W6 (h₀:=X.base) I.ok.mod.kin hk (thn (ha pos aa s U H (λvs H1=>∃J1,Rep X.K B G J1 H1 U ae/\Grow G J J1/\IsA X.K J1 ds vs) I ⟨G,J,Γ,ds,_,r,e2,λvs H1 J1 r1 g1 h1=>⟨J1,r1,g1,h1⟩⟩) λus s1 ⟨vs,H1,I1,rv,J1,r1,g1,h1⟩=>⟨I1.kIn,?_⟩) he aB;have sp:spE X.K cl gx vs H1 (λ_ _=>False) (λc _ H2=>c=.ref (cl C)/\Same H1 H2):=⟨J1,ds,C,r1.iH,h1,e4,λH' z=>⟨rfl,z⟩⟩;have hl:us.length=ps.length:=by rw[←rv.length];exact F.len _ _ _ _ sp
 have bb:=hb s1 us I1.kIn (by rw[Rx];exact hl);rw[Rx] at bb;refine S3 (R7 (F.run X.A X.stack s1 H1 ⟨us,[]⟩ us vs _ _ hr I1.env0 bb rv sp) λrr s' hq=>?_);cases rr with
 | ok fl =>
  cases fl with
  | ret u=>obtain⟨_,_,_,_,_,_,_,z⟩:=hq;exact z.elim
  | next=>exact hq.elim
  | brk=>exact hq.elim
  | cont=>exact hq.elim
 | error ex =>
  obtain⟨a,C',H2,rfl,o1,o2,o3,o4,o5,o6,o7⟩:=hq;cases o6;have I2:Inv X aa U H2 s':=I1.call' o1 o3 o4 o2 (λb z=>nomatch z);exact kk H2 J1 (r1.ext (Same.refl _) o7 (r1.iH.trans o7) λb o z=>.inl z) g1 aa s' s1.heap a I2 (λb o z n=>I1.base.there b o z n) (λq hq=>⟨_,(I1.pin q hq).1⟩) (λb o z=>o3.there b o z (λq=>nomatch q)) o5
end
noncomputable def fnE(n ar:Nat)(m:M Nat)(ds:List D):Option Nat:=if ds.length=ar then(m ((ds.map R.val).map some++QY (n - ds.length) none)).map (·.1) else none
theorem LB{K:PySem.W.Frag}{H:Hp}{vs:List V}(iH:Same I H)(h:IsA K I ds vs):Rep K (λi=>(L2.start N vs)[i]?) H I H (L2.start N vs) ((ds.map R.val).map some++QY (N.length - ds.length) none) where
 iH:=iH
 gH:=Same.refl _
 len:=by unfold L2.start;simp[h.length]
 slot:=λi q e=>by
  have e':=v8 e;obtain⟨d,e1,rfl⟩:=getMap e';obtain⟨v,e2,e3⟩:=h.get e1;refine⟨v,?_,e3⟩;unfold L2.start;rw[RH (by rw[p_];exact(n_.mp e2).1),y_,e2];rfl
 dist:=λi j q q' v e e' m m' s1 s2=>by
  obtain⟨d,_,rfl⟩:=getMap (v8 e);cases m
 bor:=λi es e=>rfl
section
variable{P:u_}{w:C_}{K:PySem.W.Frag}
theorem Kn{cl:Nat->g_}{x:Str}{st:Rm}{k:Nat}(F:Fun K x qual st f fd)(S:FnScope N ps (defScope st))(m:M Nat)(hb:∀(ak:b_) (A:Rh) (outer:List Env) (s:c_) (H:Hp) (E:XK) (B:BB),Room k (A.deeper (SR qual (defScope st) s.heap.objs.size f ak)) →
   SXs (cxOf (CXX P w) P w K mg base N qual (defScope st) f ak A outer s H E) B cl (defBody st) m):FnOk P w K mg base (CXX P w) (k+1) f fd ps (spE K cl (fnE N.length ps.length m)):=by
 obtain⟨oc,od,kV,bT,pm,an,ak,ct,cM,rfl,lk,aT⟩:=F.ex
 have par:∀{ds:List D}{C:Nat},fnE N.length ps.length m ds=some C->ds.length=ps.length/\∃ae,m ((ds.map R.val).map some++QY (N.length - ds.length) none)=some (C,ae):=λ{ds C} e=>by
  unfold fnE at e;by_cases hc:ds.length=ps.length
  ·rw[if_pos hc] at e;cases z:m ((ds.map R.val).map some++QY (N.length - ds.length) none) with
   | none=>rw[z] at e;cases e
   | some y=>rw[z] at e;cases e;exact⟨hc,_,rfl⟩
  ·rw[if_neg hc] at e;cases e
 refine A4 lk aT S (λvs H Q E h=>?_) λA outer s H vs Q E hr h=>?_
 ·obtain⟨I,ds,C,_,h2,h3,_⟩:=h;rw[←h2.length];exact(par h3).1
 ·obtain⟨I,ds,C,iH,h2,h3,h4⟩:=h;obtain⟨hc,ae,e⟩:=par h3;exact⟨_,hb ak A outer s H E (λi=>(L2.start N vs)[i]?) hr,H,I,_,C,ae,LB iH h2,e,λai H' I' r' _=>Oq (h4 H' r'.gH)⟩
end
theorem FE{K:SY}(X:K.In h)(q:excIn K C bB ni=true):
  ∃t n nm qn bs hd sn sub ab col dd k0 k1 k2 k3 k5 mN,h.get? C=some (UL nm qn C n bs t hd sn sub ab col dd k0 k1 k2 k3 k5 ni)/\h.Ns n mN/\mN "__init__"=none/\WN h bB t:=by
 unfold excIn at q;split at q
 case h_2=>cases q
 case h_1 dd cd sl ho =>
  split at q
  case h_2=>cases q
  case h_1 c1 t k0 k1 k2 k3 n k5 e1 e2 =>
   simp only[beq_iff_eq,I_,Uh] at q;obtain⟨⟨⟨⟨⟨z1,z2⟩,z3⟩,z4⟩,z5⟩,z6⟩:=q;subst z1 z2;obtain⟨a1,a2,a3,a4,a5,a6,a7,a8,a9,b1,b2⟩:=cd;have e3:sl=#[k0,k1,k2,k3,some (.builtin n),k5]:=by rw[←e2]
   dsimp only at e1 z3 z5 z6;subst e1 z3 e3;exact⟨t,a4,a1,a5,a2,a6,a7,a8,a9,b1,dd,k0,k1,k2,k3,k5,_,X _ _ ho,.of_isNs (isNs_of_in X z5),nsMap_none_of_in X z5 z6,tail_of_in X z4⟩
noncomputable abbrev VEs:List b_:=[.type "ValueError", .type "Exception", .type "BaseException", .type "object"]
noncomputable def xcIn(K:SY)(C:g_):Bool:=excIn K C VEs "ValueError.__new__"
theorem BS{P:u_}{w:C_}{H:Hp}{a:g_}(hok:HOk P w H h)(m:K_.MadeExcOf h h' a (.ref C) vs):Flies H h h' a C:=by
 obtain⟨t,e1,_,_⟩:=m.there;refine⟨_,_,_,e1,rfl,rfl,rfl,?_,m.new,.inl rfl⟩;cases z:H a with
 | none=>rfl
 | some o=>obtain⟨_,q⟩:=objThere (hok _ _ z);rw[m.new] at q;cases q
noncomputable def raX(C:Nat)(t:M (List D)):M Nat:=bnd t λds=>lft (if ds.length<=5 then some C else none)
section
variable{B:BB}{cl:Nat->g_}{es:List L_}
theorem KM{x:Str}{C:Nat}{t:M (List D)}(hc:X.calm=true)(hg:Gl X x)(hm:X.mg x=some (.ref (cl C)))(hx:xcIn X.K (cl C)=true)(ha:AD X B (e::es) t)(bi:(x == ("__debug__":Str))=false:=by decide)(he:f_ (e::es) X.env=(false,eval e X.env)::f_ es X.env:=by rfl)(aB:(P_ ay (f_ es X.env)).any (·.1)=false:=by rfl):
  SX X B cl (.Raise (some (.Call (.Name x np) (e::es) [] ay)) none pos) (raX C t):=by
 intro aa s U H D I h;obtain⟨G,J,Γ,C',ae,r,e1,kk⟩:=h;obtain⟨ds,Γ1,e2,e3⟩:=uP e1;obtain⟨e4,rfl⟩:=u6 e3;obtain⟨hl,rfl⟩:=ve e4;obtain⟨tl,n,nm,qn,bs,hd,sn,sub,ab,col,dd,k0,k1,k2,k3,k5,mN,hC,hN,hG,T⟩:=FE I.ok.mod.kin hx
 refine wpAny_Raise_call_subT (nm:=nm) (q:=qn) (N:=n) (bs:=bs) (bm:=tl) (hdct:=hd) (sn:=sn) (sub:=sub) (ab:=ab) (col:=col) (dd:=dd) (k0:=k0) (k1:=k1) (k2:=k2) (k3:=k3) (k5:=k5) Sq (mN:=mN) (T.hasType Sq.hasBase) (I.ok.hd hc)
  (by rw[he];show(false||(P_ ay (f_ es X.env)).any (·.1))=false;rw[aB];rfl) hG (wE I hg hm ⟨rfl,?_⟩ bi)
 have hh:=ha ay aa s U H (λvs H1=>∃J1,Rep X.K B G J1 H1 U ae/\Grow G J J1/\IsA X.K J1 ds vs) I ⟨G,J,Γ,ds,_,r,e2,λvs H1 J1 r1 g1 h1=>⟨J1,r1,g1,h1⟩⟩;rw[he] at hh ⊢;refine TX (thn hh λus s2 ⟨vs,H1,I1,rv,J1,r1,g1,h1⟩=>⟨rfl,?_,I1.bk _ _ hC,hN.keeps I1.bk,T.keeps I1.bk,λh' a hM=>?_⟩)
 ·rw[←rv.length,←h1.length];exact z_ hl (by decide)
 ·exact kk U H1 J1 r1 g1 aa _ s2.heap a (I1.kept (t':=s2.toks) hM.keeps) (λb o z n=>I1.base.there b o z n) (λq hq=>⟨_,(I1.pin q hq).1⟩) (λb o z=>⟨o,hM.keeps b o z⟩) (BS I1.hok hM)
theorem Turn.inv{H:Hp}{s:c_}(T:Turn H h₁ s.heap h' (frs X.stack) ch)(I:Inv X aa U H s)(c1:∀b o,X.s₀.heap.get? b=some o->b∉X.ex->∃o',h₁.get? b=some o')(c2:∀p∈X.pn++aa,∃o,h₁.get? p.1=some o):Inv X aa U H { s with heap:=h' }:=by
 have um:∀b∈ch,b∉frs X.stack:=λb hb m=>by
  obtain⟨_,_,o,vs,e,d⟩:=T.new b hb;obtain⟨_,o',e',d'⟩:=I.stack.mem m;rw[e] at e';cases e';exact d' vs d
 refine I.callN (g':=s.gens) (d':=s.drawn) (t':=s.toks) (ch:=ch) ⟨λb o e _ n2 n3=>T.keep b o e n3 n2,λb o e _ m _=>T.slot b o e m,λb o e n _=>n,λb o e n=>?_,λ_ _ z=>z,λ_ _ _ z=>z,λb q z=>by first | exact z | exact⟨#[],by rw[z];simp⟩⟩ (T.hok I) I.bare λb hb=>?_
 ·by_cases m:b∈frs X.stack
  ·obtain⟨sl,q⟩:=T.slot b o e m;exact⟨_,q⟩
  ·exact⟨_,T.keep b o e n m⟩
 ·obtain⟨n1,n2,o,vs,e,d⟩:=T.new b hb;refine⟨?_,λz=>?_,λy c hy z=>?_,λp hp z=>?_⟩
  ·by_cases m:b∈X.ex
   ·exact .inl m
   ·refine .inr ?_;cases q:X.s₀.heap.get? b with
    | none=>rfl
    | some o'=>obtain⟨_,q'⟩:=c1 b o' q m;rw[n2] at q';cases q'
  ·obtain⟨_,⟨o',es,ep,e',d',_⟩,_⟩:=I.loc;rw[←z,e] at e';cases e';rw[d] at d';cases d'
  ·obtain⟨v,o',e',d'⟩:=I.cell y c hy;rw[z,e] at e';cases e';rw[d] at d';cases d'
  ·obtain⟨_,q⟩:=c2 p hp;rw[z,n2] at q;cases q
theorem Ly{P:u_}{w:C_}{H:Hp}{l:List Env}{a:g_}{M:WB}{E:b_->c_->Prop}{s:c_}{Q:Unit->c_->Prop}(hl:s.heap.FunFrames base l)(hok:HOk P w H s.heap)(th:Lasts h₀ s.heap)(F:Flies H h₀ s.heap a C)(k:∀h' ch,Turn H h₀ s.heap h' (frs l) ch->Flies H h₀ h' a C->Q () { s with heap:=h' }):m_ M A (WA (.ref a) none) Q E s:=by
 have F0:=F;obtain⟨oe,vs,a0,e1,e2,e3,e4,e5,e6,e7⟩:=F
 rcases e7 with e7 | ⟨T,oT,ts,f1,f2,f3,f4,f5,f6,f7⟩
 ·unfold WA;refine a_ (Rt e1 e3 e7 ?_);rw[if_neg (by decide)];exact d_ (k s.heap [] ⟨λ_ z=>(nomatch z),λb o e _ _=>e,λb o e _=>⟨o.slots,e⟩⟩ F0)
 ·refine Vu (base:=Uj s.heap ([a,T]++frs l)) (l:=l) (cls:=.ref C) (a0:=a0) (fl:=ts[3]) (λb o q=>Vl _ q) (At hl) ⟨oe,vs,T,oT,ts,e1,⟨e2,e4⟩,e3,f1,Uk _ (.tail _ (.head _)),f2,f3,f4,k_ f5⟩ λh' k1 k2 k3 k4=>?_
  have T':=zP (H:=H) (h₀:=h₀) (ch:=[a,T]) hl (λb hb=>by
   rcases A_.mp hb with rfl | hb
   ·exact⟨e5,e6,_,_,e1,e3⟩
   ·rw[q_.mp hb];exact⟨f6,f7,_,_,f3,f4⟩) k1 (λb o e n=>⟨o.slots,k4 b o e n⟩)
  exact k h' [a,T] T' (AV hok th hl T' (.head _) k3.at)
theorem Turn.lasts{H:Hp}{fr:List g_}(T:Turn H h₀ h h' fr ch)(l:Lasts h₀ h):Lasts h₀ h':=λb o e=>by
 obtain⟨o',e'⟩:=l b o e;by_cases m:b∈fr
 ·obtain⟨sl,q⟩:=T.slot b o' e' m;exact⟨_,q⟩
 ·exact⟨_,T.keep b o' e' (λz=>by rw[(T.new b z).2.1] at e;cases e) m⟩
end
noncomputable abbrev Cx.tried(X:Cx)(E:b_->c_->Prop)(pn:List (g_×Obj)):Cx:={ X with xe:=E,pn:=pn }
noncomputable abbrev Cx.suite(X:Cx)(a:g_):Cx:={ X with A:=X.A.mark (some (.ref a)),calm:=false,xe:=λ_ _=>False }
section
variable{ps:List (g_×Obj)}{H:Hp}{s:c_}{E:b_->c_->Prop}{a:g_}
theorem MZ(ok:X.Ok):(Cx.tried X E pn).Ok:=by
 cases ok;constructor<;>assumption
theorem Hn(ok:(Cx.tried X E pn).Ok):X.Ok:=by
 cases ok;constructor<;>assumption
theorem FK(I:Inv X aa U H s):Inv (Cx.tried X E (X.pn++aa)) [] U H s:=
 ⟨MZ I.ok,I.os,I.bare,I.base,I.loc,I.cell,I.free,I.freeC,λp hp=>I.pin p (by rw[Rx] at hp;exact hp),I.hok,I.len⟩
theorem yN(I:Inv (Cx.tried X E (X.pn++aa)) ps U H s):Inv X aa U H s:=
 ⟨Hn I.ok,I.os,I.bare,I.base,I.loc,I.cell,I.free,I.freeC,λp hp=>I.pin p (Rl _ hp),I.hok,I.len⟩
theorem OC(ok:X.Ok):(Cx.suite X a).Ok:=by
 have hf:(X.A.mark (some (.ref a))).frames=some X.stack:=ok.frames;cases ok;constructor<;>first | assumption | exact λz=>nomatch z
theorem Dm(I:Inv X aa U H s):Inv (Cx.suite X a) aa U H s:=
 ⟨OC I.ok,I.os,I.bare,I.base,I.loc,I.cell,I.free,I.freeC,I.pin,I.hok,I.len⟩
theorem KH(k:X.Ok)(I:Inv (Cx.suite X a) aa U H s):Inv X aa U H s:=
 ⟨k,I.os,I.bare,I.base,I.loc,I.cell,I.free,I.freeC,I.pin,I.hok,I.len⟩
end
section
variable{B:BB}{cl:Nat->g_}{c:L_}{es:List L_}{m:M Nat}{g:M D}{st:Rm}{aA:List Rm}{gs:M Fl}
@[irreducible] def XI(X:Cx)(B:BB)(cl:Nat->g_)(st:Rm)(m:M Nat):Prop:=SX X B cl st m
@[irreducible] def XIs(X:Cx)(B:BB)(cl:Nat->g_)(ss:List Rm)(m:M Nat):Prop:=SXs X B cl ss m
theorem vm(k:SX X B cl st m):XI X B cl st m:=by unfold XI;exact k
theorem Be(k:XIs X B cl aA m):SXs X B cl aA m:=by unfold XIs at k;exact k
theorem wo:XIs X B cl aA nvX:=by unfold XIs;exact OI
theorem vL(k:XI X B cl st m):XIs X B cl [st] m:=by unfold XI at k;unfold XIs;exact OA k
theorem wx(k:XI X B cl st m):XIs X B cl (st::aA) m:=by
 unfold XI at k;unfold XIs;exact zx (u:=λ_ _ _=>False) k λ_ _ _ _ _ _ z=>z.elim
theorem wg(k:SI X B st gs)(k1:XI X B cl st m)(t:XIs X B cl aA m'):XIs X B cl (st::aA) (orX m (thenX gs m')):=by
 unfold SI at k;unfold XI at k1;unfold XIs at t ⊢;exact GK k k1 t
theorem Bc(k:SI X B st gs)(t:XIs X B cl aA m'):XIs X B cl (st::aA) (thenX gs m'):=by
 unfold SI at k;unfold XIs at t ⊢;exact GK k JP t
theorem wv(hc:TD X B c tc)(ha:XIs X B cl sa m)(hb:XIs X B cl sb m'):XI X B cl (.If c sa sb pos) (ifX tc m m'):=by
 unfold XIs at ha hb;unfold XI;exact Kf hc ha hb
end
end DL
namespace DL
open PySem PySem.Spec PyProof.Rows PySem.W
structure XCls(K:SY)(C:g_):Prop where
 ga:Vm K (.ref C) "__getattribute__"=some (some (.builtin "BaseException.__getattribute__"))
 ng:Vm K (.ref C) "__getattr__"=some none
 cl:Vm K (.ref C) "__class__"=some (some (.builtin "object.__class__"))
 ob:V5 K C (.type "object")=some true
 be:V5 K C (.type "BaseException")=some true
section
variable{K:SY}{prog:u_}{w:C_}{E:b_->c_->Prop}{x:g_}{o:Obj}{vs:Array b_}
theorem Me{g:Array VM}{d:Xm}{t:Nat}{os:Wv}{Q:Option b_->c_->Prop}(c:XCls K C)(X:K.In h)(hx:h.get? x=some o)(hc:o.cls=.ref C)(hd:o.data=.fields vs)(q:Q (some (.ref C)) ⟨h,g,d,t+1,os⟩):
  m_ (l_ prog w) A (getAttr? (.ref x) "__class__") Q E ⟨h,g,d,t,os⟩:=by
 obtain⟨oc,od,rJ,cM⟩:=o;dsimp only at hc hd;subst hc hd;have lo1:=Sr (M:=l_ prog w) X c.ga;have rK:=Sr (M:=l_ prog w) X c.ng;have rL:=Sr (M:=l_ prog w) X c.cl;have rM:=T4 (M:=l_ prog w) X c.be;have rN:=T4 (M:=l_ prog w) X c.ob;have oZ:Tl (l_ prog w) h (VA (.ref x)) (.ref C):=(Tl.ld hx).andThen .now;unfold getAttr?;unfold getAttrBy? getAttrBy;refine a_ (wpAny_mkText (a_ (SW (F_ (a_ (oZ.at (a_ (lo1.at ?_))))))))
 have no:(onTheHeap (b_.ref C)&&UM "BaseException.__getattribute__" == UM "object.__getattribute__")=false:=by
  rw[show(UM "BaseException.__getattribute__" == UM "object.__getattribute__")=false from by decide +kernel,Uu]
 dsimp only;rw[no,if_neg i_];unfold getAttrByItsOwn;have f3:=SS.ga.bind (.ref x)
 repeat (any_goals (first | assumption | (with_reducible refine rK.at ?_) | (with_reducible refine Rj hx ?_)  | wp_step))
 show RS _ _ (.call _ ⟨[_,_],[]⟩) _ _;refine RK SS.ga.plain PySem.F.entry_bexc_ga ?_;have k1:WG "BaseException.__getattribute__"=some .slot:=by decide +kernel
 have k2:splitId "BaseException.__getattribute__"=some ("BaseException", "__getattribute__"):=by decide +kernel
 have k3:=PySem.F.args_bexc_ga (.ref x) (.str "__class__" t);simp only[Sh,k1,k2];refine a_ ?_;unfold TJ;refine a_ (oZ.at (rM.at ?_))
 repeat (any_goals (first | wp_step | assumption))
 have T5:(⟨h,g,d,t+1,os⟩:c_).TypeIs (.builtin "object.__class__") "getset_descriptor":=PySem.F.typeOf_object_class;have f5:=PySem.F.typeOf_object_class;have f6:=WI.lookup;have f7:=PySem.F.slot_gs_set.lookup
 repeat (any_goals (first | assumption | (with_reducible refine rL.at ?_) | (with_reducible refine Rj hx ?_)  | wp_step))
 refine RK WI.plain PySem.F.entry_gs_get (WI.check _ _ _ _ _ _ _ _ T5 (PySem.F.args_gs_get _ _ _) ?_);have rO:Tl (l_ prog w) h (isSubtype (.ref C) (.type (".".intercalate ("object.__class__".cutAt '.').dropLast))) true:=by rw[show(".".intercalate ("object.__class__".cutAt '.').dropLast) = "object" from by decide +kernel];exact rN
 repeat (any_goals (first | assumption | (with_reducible refine rO.at ?_) | (with_reducible refine Rj hx ?_)  | wp_step))
 refine⟨UU _ (by decide +kernel),Q2 PySem.F.entry_object_class ?_⟩
 repeat (any_goals (first | assumption | (with_reducible refine Rj hx ?_)  | wp_step))
end
end DL
namespace DL
open PySem PySem.Spec PyProof.Rows L2 PySem.W
theorem Kh{K:SY}{a:g_}(c:XCls K C):KitX K (.ref a) (.ref C) (λh=>∃o vs,h.get? a=some o/\o.cls=.ref C/\o.data=.fields vs) where
 ty:=λM h _ ⟨o,vs,h1,h2,_⟩=>h2▸(Tl.ld h1).andThen .now
 it:=λM h X _=>by
  obtain⟨cd,hc,_⟩:=U8.mp c.ob;unfold W' at hc;split at hc
  ·rename_i ho;intro A Q E s kp qq;unfold isType loadHead;exact a_ (wpAny_loadPart (kp _ _ (X _ _ ho)) (d_ qq))
  ·cases hc
 ne:=λh tp _ _ _ _ X rP=>by
  obtain⟨cd,hc,_⟩:=U8.mp c.ob;refine UK.mpr λqq=>?_
  cases b_.ref.inj (beq_iff_eq.mp qq);unfold W' at hc;split at hc
  ·rename_i ho
   cases(X _ _ ho).symm.trans rP
  ·cases hc
 ca:=λ{prog w A E Q s} X ⟨o,vs,h1,h2,h3⟩ k=>by
  obtain⟨h,g,d,t,os⟩:=s;exact Me c X h1 h2 h3 k
noncomputable def xNames:List Str:=["NoKin", "NoHouse", "NoRoad", "Ring", "NoHold", "NoLetter", "NoStep", "NoText", "NoRow", "NoLog"]
noncomputable def yNames:List Str:= "RoofError"::xNames
noncomputable def subX(x y:Str):Bool:=x == y||y == ("RoofError":Str)
noncomputable def xclsB(K:SY)(C:g_):Bool:=Vm K (.ref C) "__getattribute__" == some (some (.builtin "BaseException.__getattribute__"))&&Vm K (.ref C) "__getattr__" == some none &&
 Vm K (.ref C) "__class__" == some (some (.builtin "object.__class__"))&&V5 K C (.type "object") == some true&&V5 K C (.type "BaseException") == some true
theorem KF{K:SY}(h:xclsB K C=true):XCls K C:=by
 unfold xclsB at h;simp only[I_,beq_iff_eq] at h;obtain⟨⟨⟨⟨h1,h2⟩,h3⟩,h4⟩,h5⟩:=h;exact⟨h1,h2,h3,h4,h5⟩
noncomputable def xTab(K:SY):Bool:=xNames.all λx=>xclsB K (clOf K x)&&(Xi K (.ref (clOf K x)) (.type "ValueError") == some true)&&yNames.all λy=>Xi K (.ref (clOf K x)) (.ref (clOf K y)) == some (subX x y)
theorem GW{K:SY}(h:xTab K=true){x:Str}(hx:xNames.contains x=true):XCls K (clOf K x):=by
 have:=t_.mp h x (by simpa using hx);simp only[I_] at this;exact KF this.1.1
theorem Jg{K:SY}(h:xTab K=true){x:Str}(hx:xNames.contains x=true):Xi K (.ref (clOf K x)) (.type "ValueError")=some true:=by
 have:=t_.mp h x (by simpa using hx);simp only[I_,beq_iff_eq] at this;exact this.1.2
theorem HA{K:SY}(h:xTab K=true){x:Str}(hx:xNames.contains x=true)(hy:yNames.contains y=true):Xi K (.ref (clOf K x)) (.ref (clOf K y))=some (subX x y):=by
 have:=t_.mp h x (by simpa using hx);simp only[I_] at this;exact beq_iff_eq.mp (t_.mp this.2 y (by simpa using hy))
noncomputable def isxF(y:Str)(d:D):Option D:=match d with
 | .exc x _=>if xNames.contains x=true/\yNames.contains y=true then some (.bl (subX x y)) else none
 | _=>none
noncomputable def isvF(d:D):Option D:=match d with
 | .exc x _=>if xNames.contains x=true then some (.bl true) else none
 | _=>none
section
variable{B:BB}
theorem En{H:Hp}{s:c_}{a:g_}{x:Str}{d:Option g_}(I:Inv X aa U H s)(h:H a=some (ExO X.K a x d)):∃o vs,s.heap.get? a=some o/\o.cls=.ref (clOf X.K x)/\o.data=.fields vs/\∀dx,d=some dx->o.dict=some dx:=by
 obtain⟨p,_⟩:=I.hok a _ h;exact p
theorem FT(hX:xTab X.K=true){H:Hp}{s:c_}{Q:VK}{x:Str}{n:Option Int}{v:V}{u c:b_}{b:Bool}{E:b_->c_->Prop}(I:Inv X aa U H s)(hx:xNames.contains x=true)(hd:Is X.K H (.exc x n) v)(r:RelV v u)(k:Xi X.K (.ref (clOf X.K x)) c=some b)(q:Q (.bl b) H):
  m_ (l_ X.prog X.w) A (call (.builtin "isinstance") [u,c]) (EP X aa U Q) E s:=by
 obtain⟨a,d,rfl,h1,_⟩:=Aq hd
 cases(show u=b_.ref a from r)
 obtain⟨o,vs,e1,e2,e3,_⟩:=En I h1;exact kia_one (Kh (GW hX hx)) I.kIn ⟨o,vs,e1,e2,e3⟩ k (λz=>nomatch z) λtk=>⟨.bl b,H,I.tok _,rfl,q⟩
theorem Ka(hX:xTab X.K=true)(y:Str):CallR X (.builtin "isinstance") (λxs H Q=>∃x n v,xs=[v,.ref (clOf X.K y)]/\(xNames.contains x=true/\yNames.contains y=true)/\Is X.K H (.exc x n) v/\Q (.bl (subX x y)) H):=by
 intro aa s U H xs us Q I r h;obtain⟨x,n,v,rfl,⟨hx,hy⟩,hd,q⟩:=h;cases r with
 | cons rx r =>
  cases r with
  | cons rt r =>
   cases r;cases rt;exact FT hX I hx hd rx (HA hX hx hy) q
theorem HU(hX:xTab X.K=true):CallR X (.builtin "isinstance") (λxs H Q=>∃x n v,xs=[v,.ty "ValueError"]/\xNames.contains x=true/\Is X.K H (.exc x n) v/\Q (.bl true) H):=by
 intro aa s U H xs us Q I r h;obtain⟨x,n,v,rfl,hx,hd,q⟩:=h;cases r with
 | cons rx r =>
  cases r with
  | cons rt r =>
   cases r;cases rt;exact FT hX I hx hd rx (Jg hX hx) q
end
section
variable{H:Hp}{s:c_}
theorem Dz{P:u_}{w:C_}{K:SY}{a:g_}{x:Str}{d:Option g_}{o:Obj}{vs:Array b_}(e1:h.get? a=some o)(e2:o.cls=.ref (clOf K x))(e3:o.data=.fields vs)(e4:∀dx,d=some dx->o.dict=some dx):ObjOk P w H' h a (ExO K a x d):=
 ⟨⟨o,vs,e1,e2,e3,e4⟩,⟨o,e1⟩,λh1 h2 ⟨o',fq,q1,q2,q3,q4⟩ k=>⟨o',fq,k _ q1,q2,q3,q4⟩⟩
theorem Inv.track{a:g_}{x:Str}(I:Inv X aa U H s)(c1:∀b o,X.s₀.heap.get? b=some o->b∉X.ex->∃o',h₁.get? b=some o')(c2:∀p∈X.pn++aa,∃o,h₁.get? p.1=some o)(F:Flies H h₁ s.heap a (clOf X.K x)):Inv X aa U (upd H a (ExO X.K a x none)) s:=by
 obtain⟨oe,vs,a0,e1,e2,e3,_,e5,e6,_⟩:=F;have up:=vq e5 (ExO X.K a x none);refine⟨I.ok,I.os,I.bare,⟨I.base.keep,I.base.slot,λb o q n hx=>?_,I.base.there,λb xs q=>up _ _ (I.base.tups b xs q),λb o u q=>up _ _ (I.base.frzs b o u q),λb ps q=>up _ _ (I.base.tbls b ps q)⟩,I.loc,I.cell,?_,λy c hy=>?_,λp hp=>?_,λb u q=>?_,I.len⟩
 ·rw[uS λz=>?_]
  ·exact I.base.free b o q n hx
  ·obtain⟨_,k⟩:=c1 b o q hx;rw[z,e6] at k;cases k
 ·rw[uS λz=>?_]
  ·exact I.free
  ·obtain⟨_,⟨o',es,ep,e',d',_⟩,_⟩:=I.loc;rw[z,e1] at e';cases e';rw[e3] at d';cases d'
 ·rw[uS λz=>?_]
  ·exact I.freeC y c hy
  ·obtain⟨v,o',e',d'⟩:=I.cell y c hy;rw[z,e1] at e';cases e';rw[e3] at d';cases d'
 ·obtain⟨k1,k2,k3,k4,k5⟩:=I.pin p hp;refine⟨k1,?_,k3,k4,k5⟩;rw[uS λz=>?_]
  ·exact k2
  ·obtain⟨_,k⟩:=c2 p hp;rw[z,e6] at k;cases k
 ·by_cases hb:b=a
  ·subst hb;rw[u3] at q;cases q;exact Dz e1 e2 e3 λdx z=>nomatch z
  ·rw[uS hb] at q;exact(I.hok b u q).stay (λc v _ z=>z) (λc z=>up _ _ z) (λc xs z=>up _ _ z) (λc _ _ z=>up _ _ z)
theorem Im{M:WB}{E:b_->c_->Prop}{i:Nat}{x:Str}{Q:Unit->c_->Prop}(I:Inv X aa U H s)(hN:X.N.Nodup)(hi:X.N[i]?=some x)(hx:X.env.kindOf x=some .local)(k:∀s',Inv X aa (U.set i none) H s'->Q () s'):
  m_ M A (do bindName X.env x .none;unbindBehindTheSuite X.env x pos) Q E s:=by
 obtain⟨m,hn,hl⟩:=id I.loc;have cne:=I.cne;obtain⟨oL,_,_,nD,_⟩:=id hn;refine wpAny_nameGoes_keeps hx hn (by rw[I.ok.kind];rfl) λh' v dW hs=>?_
 have fk:∀b o,X.s₀.heap.get? b=some o->b≠X.env.locals:=λb o e=>H_ (G_ (w_ e) I.ok.above)
 refine k _ ⟨I.ok,I.os,I.bare,⟨λb o e n hb hx=>(hs.2 b (fk b o e)).trans (I.base.keep b o e n hb hx),λb o e n hb hx=>?_,I.base.free,λb o e hx=>?_,I.base.tups,I.base.frzs,I.base.tbls⟩,⟨_,dW,λj y v' e1 e2 e3=>?_⟩,λy c e=>?_,I.free,I.freeC,λp hp=>?_,λb ob e=>?_,by rw[Sn];exact I.len⟩
 ·obtain⟨sl,e1⟩:=I.base.slot b o e n hb hx;exact⟨sl,(hs.2 b (fk b o e)).trans e1⟩
 ·obtain⟨o',e1⟩:=I.base.there b o e hx;exact⟨o',(hs.2 b (fk b o e)).trans e1⟩
 ·by_cases hj:j=i
  ·subst hj;rw[List.getElem?_set] at e2;split at e2
   ·split at e2<;>cases e2
   ·exact absurd rfl ‹_›
  ·rw[Rf (QW hj)] at e2;obtain⟨u',r',q⟩:=hl j y v' e1 e2 e3;refine⟨u',r',?_⟩
   rcases q with⟨z1,z2⟩ | ⟨z1,c,z2,z3⟩
   ·have ne:y≠x:=λz=>hj (BD hN e1 (z▸hi))
    exact .inl ⟨z1,by simp[ne,z2]⟩
   ·exact .inr ⟨z1,c,z2,z3.sameBut hs (cne y c z2)⟩
 ·obtain⟨w',z⟩:=I.cell y c e;exact⟨w',z.sameBut hs (cne y c e)⟩
 ·obtain⟨z1,z2,z3,z4,z5⟩:=I.pin p hp;exact⟨(hs.2 p.1 z3).trans z1,z2,z3,z4,z5⟩
 ·refine(I.hok b ob e).stay (λc u hc q=>(hs.2 c λz=>?_).trans q) (λ_ q=>q) (λ_ _ q=>q) λ_ _ _ q=>q
  rw[z] at hc
  rcases hc with hc | hc
  ·rw[←hc,I.free] at e;cases e
  ·rw[I.free] at hc;cases hc
end
noncomputable def xTop(K:SY):Bool:=typeIn K (.ref (clOf K "RoofError")) == some (.type "type")&&V5 K (clOf K "RoofError") (.type "BaseException") == some true&&xNames.all λx=>V5 K (clOf K x) (.ref (clOf K "RoofError")) == some true
theorem Jx{K:SY}{M:WB}{E:b_->c_->Prop}{g:Array VM}{d:Xm}{t:Nat}{os:Wv}{a:g_}{o:Obj}{Q:Bool->c_->Prop}(X:K.In h)(ty:typeIn K (.ref T)=some (.type "type"))(be:V5 K T (.type "BaseException")=some true)(sb:V5 K C (.ref T)=some true)(e1:h.get? a=some o)(e2:o.cls=.ref C)(q:Q true ⟨h,g,d,t,os⟩):
  m_ M A (excMatches (.ref a) (.ref T)) Q E ⟨h,g,d,t,os⟩:=by
 have L1:=looks_typeIn (M:=M) X ty;have L2:=T4 (M:=M) X be;have L3:=T4 (M:=M) X sb
 have L4:Tl M h (isType (.ref T)) true:=by
  obtain⟨cd,hc,_⟩:=U8.mp be;unfold W' at hc;split at hc
  ·rename_i ho;intro A Q E s kp qq;unfold isType loadHead;exact a_ (wpAny_loadPart (kp _ _ (X _ _ ho)) (d_ qq))
  ·cases hc
 have L5:Tl M h (VA (.ref a)) (.ref C):=e2▸(Tl.ld e1).andThen .now;have f:=tc_notTuple;unfold excMatches TJ isExcClass
 repeat (first | (with_reducible refine L1.at ?_) | (with_reducible refine L4.at ?_) | (with_reducible refine L2.at ?_) | (with_reducible refine L3.at ?_) | (with_reducible refine L5.at ?_) | wp_step)
 exact q
noncomputable def xNm(n:Nat):Str:=xNames.getD n "NoKin"
theorem Ln(n:Nat):xNames.contains (xNm n)=true:=by
 match n with
 | 0 | 1 | 2 | 3 | 4 | 5 | 6 | 7 | 8 | 9=>decide
 | k+10=>have e:xNm (k+10) = "NoKin":=rfl;rw[e];decide
noncomputable def clN(K:SY)(n:Nat):g_:=clOf K (xNm n)
noncomputable def clr(j:Nat):M Unit:=λΓ=>some ((),Γ.set j none)
noncomputable def tryE(g:M Fl)(m:M Nat)(j i:Nat):M Fl:=λΓ=>match m Γ with
 | some (c,Γ1)=>(bnd (putS j (.val (.exc (xNm c) none))) λ_=>bnd (setV i (nm j)) λ_=>bnd (clr j) λ_=>ret .nx) Γ1
 | none=>g Γ
theorem Rep.gone{K:SY}{B:BB}{H:Hp}(r:Rep K B G I H U Γ)(i:Nat):Rep K B G I H (U.set i none) (Γ.set i none) where
 iH:=r.iH
 gH:=r.gH
 len:=by rw[Sn,Sn];exact r.len
 slot:=λj q e=>by
  rcases vf e with⟨_,z,_⟩ | ⟨n,z⟩
  ·cases z
  ·rw[Rf (QW n)];exact r.slot j q z
 dist:=λj k q q' v e e' m m' s1 s2=>by
  rcases vf e with⟨_,z,_⟩ | ⟨n,z⟩
  ·cases z
  rcases vf e' with⟨_,z',_⟩ | ⟨n',z'⟩
  ·cases z'
  rw[Rf (QW n)] at s1;rw[Rf (QW n')] at s2;exact r.dist j k q q' v z z' m m' s1 s2
 bor:=λj ds e=>by
  rcases vf e with⟨_,z,_⟩ | ⟨n,z⟩
  ·cases z
  ·rw[Rf (QW n)];exact r.bor j ds z
section
variable{B:BB}
theorem MV{g:M Fl}{m:M Nat}{z:Str}{i j:Nat}{ep yp ap hp:Pos}(hX:xTop X.K=true)(hN:X.N.Nodup)(dQ:X.stack=X.env::X.outer)(iU:X.env.frame=some X.env.locals)(hm:X.mg "RoofError"=some (.ref (clOf X.K "RoofError")))(hb:∀E pn,SDs (Cx.tried X E pn) B body g)(rQ:∀E pn,SXs (Cx.tried X E pn) B (clN X.K) body m)(hg:Gl X "RoofError":=by exact rfl)(hi:X.N[i]?=some y:=by rfl)(hj:X.N[j]?=some z:=by rfl)(hy:locB X.env.scope y=true:=by rfl)(hf:fnB X y=true:=by rfl)(hz:X.env.scope.names.lookup z=some .local:=by rfl)(hv:visB X.env.scope z=true:=by rfl)(rR:X.env.kindOf z=some .local:=by rfl)(rS:(z == ("__debug__":Str))=false:=by decide)(rT:(z == ("__classdict__":Str))=false:=by decide)(hs:∀a,RM (.Name z ep) (some (.Name y yp)) ap.line (Cx.suite X a).env=pure false:=by intros;rfl):
  SD X B (.Try body [.ExceptHandler (some (.Name "RoofError" np)) (some z) [.Assign [.Name y yp] (.Name z ep) ap] hp] [] [] pos) (tryE g m j i):=by
 intro aa s U H D I q;obtain⟨G,J,Γ,f,ae,r,e1,k⟩:=q;unfold tryE at e1;cases em:m Γ with
 | none =>
  rw[em] at e1;refine wpAny_Try_except (thn (hb _ (X.pn++aa) [] s U H D (FK I) ⟨G,J,Γ,f,ae,r,e1,k⟩) λfl s1 q=>?_);cases fl with
  | next=>obtain⟨ai,H',I',q⟩:=q;exact SZ ⟨ai,H',yN I',q⟩
  | brk=>obtain⟨ai,H',I',q⟩:=q;exact⟨ai,H',yN I',q⟩
  | cont=>obtain⟨ai,H',I',q⟩:=q;exact⟨ai,H',yN I',q⟩
  | ret u=>obtain⟨v,ai,H',I',q⟩:=q;exact⟨v,ai,H',yN I',q⟩
 | some cy =>
  obtain⟨c,Γ1⟩:=cy;rw[em] at e1;obtain⟨_,Γ2,e2,e3⟩:=uP e1;obtain⟨rV,aI,e4,e5⟩:=uP e3;obtain⟨_,aJ,e6,e7⟩:=uP e5;cases e7;cases e6;have rW:=e4;obtain⟨hl,rfl⟩:=xa e2
  have rX:rV=.nx:=by
   obtain⟨_,_,_,z2⟩:=uP e4;obtain⟨_,_,_,z4⟩:=uP z2;cases z4;rfl
  subst rX;refine wpAny_Try_except (thn (rQ _ (X.pn++aa) [] s U H ⟨λ_ _=>False,λ_ _=>False,λ_ _=>False,λ_ _=>False⟩ (FK I) ⟨G,J,Γ,c,Γ1,r,em,λai H' I' r' g'=>?_⟩) λfl s1 q=>?_);rotate_left
  ·cases fl with
   | next=>obtain⟨_,_,_,q⟩:=q;exact q.elim
   | brk=>obtain⟨_,_,_,q⟩:=q;exact q.elim
   | cont=>obtain⟨_,_,_,q⟩:=q;exact q.elim
   | ret u=>obtain⟨_,_,_,_,_,q⟩:=q;exact q.elim
  intro ps s1 h₁ a I1 c1 c2 c3 F;have I2:=yN I1;have mO:∀p∈X.pn++aa,∃o,h₁.get? p.1=some o:=λp hp=>c2 p (Rl _ hp)
  have fr:=I2.ok.frames;have st:=I2.stack;rw[dQ] at fr st;show m_ (l_ X.prog X.w) X.A (VT (.ref a) X.env) _ _ s1;refine GO fr iU st I2.hok c3 F λh2 ch T F2=>?_
  rw[←dQ] at T;have I3:=T.inv I2 c1 mO;have l3:=T.lasts c3;unfold xTop at hX;simp only[I_,beq_iff_eq] at hX;obtain⟨⟨x1,x2⟩,x3⟩:=hX;have x4:V5 X.K (clN X.K c) (.ref (clOf X.K "RoofError"))=some true:=beq_iff_eq.mp (t_.mp x3 _ (by have:=Ln c;simpa using this));obtain⟨oe,vs,a0,f1,f2,f3,f4,f5⟩:=id F2;refine wpAny_handleBy_cons (codeAny_handlers_test (wE (X:=Cx.suite X a) (Dm I3) hg hm (Jx I3.kIn x1 x2 x4 f1 f2 (codeAny_handlers_suite_as ?_)) (by decide))) (by intro q;cases q);refine Ly I3.stack I3.hok l3 F2 λh3 uo T3 F3=>?_
  have I4:=T3.inv I3 c1 mO;have I5:=DL.Inv.track I4 (x:=xNm c) c1 mO F3;obtain⟨_,_,_,_,_,_,_,free,_⟩:=id F3;have rA:=r'.alloc free (ExO X.K a (xNm c) none);have gA:=r'.growAlloc free (ExO X.K a (xNm c) none);refine CL (X:=Cx.suite X a) (v:=.ref a) (Dm I5) hN hj (.inl hz) rfl (λs4 I6=>?_) (.inr hz);have rB:=rA.store (i:=j) (q:=.val (.exc (xNm c) none)) (v:=.ref a) (by rw[rA.len];exact hl) (Is.exc u3 λk z=>nomatch z) (λz=>nomatch z) (λ_ z=>nomatch z);have fv:SDs (Cx.suite X a) B [.Assign [.Name y yp] (.Name z ep) ap] (setV i (nm j)):=Dk (Fd (X:=Cx.suite X a) hN (zg (pv j hj hv rS rT)) hi hy (hs a) hf);refine Q9 (fv aa _ _ _ ⟨λk8 o0=>∃hU,Rep X.K B G hU o0 k8 aI/\Grow G (upd I' a (ExO X.K a (xNm c) none)) hU,λ_ _=>False,λ_ _=>False,λ_ _=>False⟩ I6 ⟨G,_,_,.nx,aI,rB,rW,λk8 o0 hU rY rZ=>⟨hU,rY,rZ⟩⟩) (λfl s5 q=>?_) λ_ _ z=>z.elim
  cases fl with
  | next =>
   obtain⟨cF,H5,I7,hU,r5,g5⟩:=q;refine Im (KH I.ok I7) hN hj rR λs6 I8=>?_
   exact⟨_,H5,I8,k _ H5 hU (r5.gone j) (g'.trans (gA.trans g5))⟩
  | brk=>obtain⟨_,_,_,q⟩:=q;exact q.elim
  | cont=>obtain⟨_,_,_,q⟩:=q;exact q.elim
  | ret u=>obtain⟨_,_,_,_,_,q⟩:=q;exact q.elim
theorem Ol:∀U H Q,tD X.K B (un1 (isxF y) ga) U H Q->tCB (λxs H Q=>∃x n v,xs=[v,.ref (clOf X.K y)]/\(xNames.contains x=true/\yNames.contains y=true)/\Is X.K H (.exc x n) v/\Q (.bl (subX x y)) H) (tCons (tD X.K B ga) (tCons (tC (.ref (clOf X.K y))) tNil)) U H Q:=λU H Q q=>by
 obtain⟨G,I,Γ,d,ae,r,e1,k⟩:=q;obtain⟨d1,Γ1,e2,e3⟩:=uP e1;obtain⟨e4,rfl⟩:=u6 e3;unfold isxF at e4;split at e4
 ·obtain⟨h1,rfl⟩:=ve e4;exact⟨G,I,Γ,_,_,r,e2,λv H1 I1 r1 g1 h2=>⟨_,_,v,rfl,h1,h2.mono r1.iH,k _ _ _ r1 g1 (Is.bl _)⟩⟩
 ·cases e4
theorem K8:∀U H Q,tD X.K B (un1 isvF ga) U H Q->tCB (λxs H Q=>∃x n v,xs=[v,.ty "ValueError"]/\xNames.contains x=true/\Is X.K H (.exc x n) v/\Q (.bl true) H) (tCons (tD X.K B ga) (tCons (tC (.ty "ValueError")) tNil)) U H Q:=λU H Q q=>by
 obtain⟨G,I,Γ,d,ae,r,e1,k⟩:=q;obtain⟨d1,Γ1,e2,e3⟩:=uP e1;obtain⟨e4,rfl⟩:=u6 e3;unfold isvF at e4;split at e4
 ·obtain⟨h1,rfl⟩:=ve e4;exact⟨G,I,Γ,_,_,r,e2,λv H1 I1 r1 g1 h2=>⟨_,_,v,rfl,h1,h2.mono r1.iH,k _ _ _ r1 g1 (Is.bl _)⟩⟩
 ·cases e4
theorem vY{p p2:Pos}(hX:xTab X.K=true)(hg:Gl X "isinstance")(hm:X.mg "isinstance"=none)(fX:Gl X y)(fx:X.mg y=some (.ref (clOf X.K y)))(ha:ED X B e ga)(hd:(y == ("__debug__":Str))=false:=by decide)(he:f_ [e,.Name y p2] X.env=(false,eval e X.env)::f_ [.Name y p2] X.env:=by rfl)(iV:f_ [.Name y p2] X.env=(false,eval (.Name y p2) X.env)::f_ [] X.env:=by rfl)(aB:(P_ pos (f_ [.Name y p2] X.env)).any (·.1)=false:=by rfl):
  ED X B (.Call (.Name "isinstance" p) [e,.Name y p2] [] pos) (un1 (isxF y) ga):=
 PE.imp (yC (Ka hX y) hg hm boot_isinstance (vI ha (vI (MG (v:=.ref (clOf X.K y)) fX fx rfl hd) wO iV) he) (by decide) (by decide) he aB) Ol
theorem Pb{p p2:Pos}(hX:xTab X.K=true)(hg:Gl X "isinstance")(hm:X.mg "isinstance"=none)(fX:Gl X "ValueError")(fx:X.mg "ValueError"=none)(ha:ED X B e ga)(he:f_ [e,.Name "ValueError" p2] X.env=(false,eval e X.env)::f_ [.Name "ValueError" p2] X.env:=by rfl)(iV:f_ [.Name "ValueError" p2] X.env=(false,eval (.Name "ValueError" p2) X.env)::f_ [] X.env:=by rfl)(aB:(P_ pos (f_ [.Name "ValueError" p2] X.env)).any (·.1)=false:=by rfl):
  ED X B (.Call (.Name "isinstance" p) [e,.Name "ValueError" p2] [] pos) (un1 isvF ga):=
 PE.imp (yC (HU hX) hg hm boot_isinstance (vI ha (vI (Ij (v:=.ty "ValueError") fX fx (by decide +kernel) rfl) wO iV) he) (by decide) (by decide) he aB) K8
end
noncomputable def mkE(x:Str)(t:M (List D)):M D:=bnd t λds=>lft (if ds.length<=5 then some (.exc x none) else none)
section
variable{B:BB}{es:List L_}
theorem ww{x:Str}{t:M (List D)}(hg:Gl X x)(hm:X.mg x=some (.ref (clOf X.K x)))(hx:xcIn X.K (clOf X.K x)=true)(hk:W5 X.K (.ref (clOf X.K x))=true)(ha:AD X B (e::es) t)(bi:(x == ("__debug__":Str))=false:=by decide)(he:f_ (e::es) X.env=(false,eval e X.env)::f_ es X.env:=by rfl)(aB:(P_ pos (f_ es X.env)).any (·.1)=false:=by rfl):
  ED X B (.Call (.Name x np) (e::es) [] pos) (mkE x t):=by
 intro aa s U H Q I h;obtain⟨G,J,Γ,d,ae,r,e1,kk⟩:=h;obtain⟨ds,Γ1,e2,e3⟩:=uP e1;obtain⟨e4,rfl⟩:=u6 e3;obtain⟨hl,rfl⟩:=ve e4;obtain⟨tl,n,nm,qn,bs,hd,sn,sub,ab,col,dd,k0,k1,k2,k3,k5,mN,hC,hN,hG,T⟩:=FE I.ok.mod.kin hx;refine Rs (wE I hg hm ?_ bi);refine W6 (h₀:=X.base) I.ok.mod.kin hk (thn (ha pos aa s U H (λvs H1=>∃J1,Rep X.K B G J1 H1 U ae/\Grow G J J1/\IsA X.K J1 ds vs) I ⟨G,J,Γ,ds,_,r,e2,λvs H1 J1 r1 g1 h1=>⟨J1,r1,g1,h1⟩⟩) λus s1 ⟨vs,H1,I1,rv,J1,r1,g1,h1⟩=>⟨I1.kIn,?_⟩) he aB;obtain⟨o8,g',d',t',gR⟩:=s1;refine wpAny_call_exc_subT Sq (T.keeps I1.bk) (I1.bk _ _ hC) (hN.keeps I1.bk) hG (λh' a hM=>?_) ?_
 ·have F:=BS I1.hok hM;have I2:=I1.kept (t':=t') hM.keeps;have I3:=DL.Inv.track I2 (x:=x) (h₁:=o8) (λb o z n=>I1.base.there b o z n) (λq hq=>⟨_,(I1.pin q hq).1⟩) F;obtain⟨_,_,_,_,_,_,_,free,_⟩:=id F;exact⟨.ref a,_,I3,rfl,kk _ _ _ (r1.alloc free _) (g1.trans (r1.growAlloc free _)) (Is.exc u3 λk z=>nomatch z)⟩
 ·rw[Wb,←rv.length,←h1.length];exact z_ hl (by decide)
end
end DL
namespace DL
open PySem PySem.Spec PyProof.Rows L2 PySem.W
open PySem.Builtin PySem.Builtin.ObjectAttr
structure XNum(K:SY)(C T:g_):Prop where
 cs:Vm K (.ref C) "__setattr__"=some (some (.builtin "object.__setattr__"))
 cn:Vm K (.ref C) "number"=some none
 ob:V5 K C (.type "object")=some true
 cd:∃cd,W' K C=some cd/\cd.hasDict=true/\cd.mro=[.ref C,.ref T,.type "ValueError", .type "Exception", .type "BaseException", .type "object"]
section
variable{K:SY}{prog:u_}{w:C_}{E:b_->c_->Prop}{x:g_}{vs:Array b_}{sl:Array (Option b_)}{g:Array VM}{d:Xm}{t:Nat}{os:Wv}
theorem M4{v:b_}{Q:Unit->c_->Prop}(c:XNum K C T)(X:K.In h)(hx:h.get? x=some ⟨.ref C,none,.fields vs,sl⟩)(q:∀h' tk dx,h.get? dx=none->dx≠x->h'.get? x=some ⟨.ref C,some dx,.fields vs,sl⟩->h'.Ns1 dx (λy=>if y = "number" then some v else none)->(∀b o,b≠x->h.get? b=some o->h'.get? b=some o)->Q () ⟨h',g,d,tk,os⟩):
  m_ (l_ prog w) A (setAttr (.ref x) "number" v) Q E ⟨h,g,d,t,os⟩:=by
 have a1:=Sr (M:=l_ prog w) X c.cs;have a2:=Sr (M:=l_ prog w) X c.cn;have a3:=T4 (M:=l_ prog w) X c.ob;obtain⟨cd,b1,b2,b3⟩:=c.cd
 obtain⟨oC,g1,g2⟩:∃oC,h.get? C=some oC/\oC.data=.cls cd:=by
  unfold W' at b1;split at b1
  ·rename_i ho;cases b1;exact⟨_,X _ _ ho,rfl⟩
  ·cases b1
 have a4:=looks_clsIn (M:=l_ prog w) X b1;have a5:Tl (l_ prog w) h (mroOf (.ref C)) cd.mro:=a4.andThen .now;have a6:Tl (l_ prog w) h (VA (.ref x)) (.ref C):=(Tl.ld hx).andThen .now;have f3:=RW.slot.bind (.ref x);have ps:=RW.passes (.ref x);unfold setAttr;unfold callSpecial? specialOf
 repeat (any_goals (first | assumption | (with_reducible refine Rj hx ?_) | (with_reducible refine a1.at ?_) | wp_step))
 refine RK RW.slot.plain RW.entry ?_;have k1:=RW.kind;have k2:=RW.split;have k3:=RW.args (.ref x) (.str "number" t) v;simp only[Sh,k1,k2];refine a_ ?_;unfold TJ;refine a_ (a6.at (a3.at ?_))
 repeat (any_goals (first | (rw[refuse_eq]) | (rw[b3,refuseLoop_ref,refuseLoop_ref,ps]) | (with_reducible refine Rj hx ?_) | (with_reducible refine a5.at ?_) | (with_reducible refine a2.at ?_) | wp_step | assumption))
 rw[g2];refine d_ ?_;rw[b2,if_neg (by decide)]
 show m_ _ _ (do
  let d ←alloc { cls:=b_.type "dict", data:=Data.dict #[] }
  update x λo=>{ cls:=o.cls,dict:=some d,data:=o.data,slots:=o.slots }
  dictMade (.ref C) x d) _ _ _
 have mP:(h.push { cls:=.type "dict", data:=.dict #[] }).get? x=some ⟨.ref C,none,.fields vs,sl⟩:=e_ _ hx;have nx:x≠h.objs.size:=H_ (w_ hx);refine a_ (wpAny_alloc' (a_ (wpAny_update' mP ?_)))
 have r8:((h.push { cls:=.type "dict", data:=.dict #[] }).update x λo=>{ cls:=o.cls,dict:=some h.objs.size,data:=o.data,slots:=o.slots }).get? h.objs.size=some { cls:=.type "dict", data:=.dict #[] }:=
  (K_.get?_update_ne _ _ _ _ nx.symm).trans (K_.get?_push_at rfl rfl)
 refine d_ ?_;show m_ _ _ (storeInDict h.objs.size (.str "number" t) "number" v) _ _ _;unfold storeInDict;unfold newKeyGuard;refine a_ (d_ (a_ (wpAny_nsSet1 (K_.Ns1.of_empty ⟨_,#[],_,r8,rfl,λe he=>absurd he (by simp),λ_=>rfl⟩) λh' dW hs=>?_)));obtain⟨oD,uq,ur,r9,sd,se⟩:=dW.count (Within.cons "number" v Within.nil);refine a_ (wpAny_lookBehind r9 (by rw[sd];exact pastItsLine_dict (z_ se (by rw[Rp,List.length_nil,Rz];omega))) ?_)
 repeat (any_goals (first | wp_step | assumption))
 refine q h' _ h.objs.size (Ss (x_ _)) nx.symm ((hs.2 x nx).trans (O_ _ mP rfl)) dW λb o ne e=>?_
 exact(hs.2 b (H_ (w_ e))).trans ((K_.get?_update_ne _ _ _ _ ne).trans (e_ _ e))
end
section
variable{K:SY}{prog:u_}{w:C_}{E:b_->c_->Prop}{x dx:g_}{vs:Array b_}{sl:Array (Option b_)}{g:Array VM}{d:Xm}{t:Nat}{os:Wv}
theorem O5{u:b_}{Q:b_->c_->Prop}(c:XCls K C)(cn:XNum K C T)(X:K.In h)(hx:h.get? x=some ⟨.ref C,some dx,.fields vs,sl⟩)(hn:h.Ns1 dx mA)(hu:mA "number"=some u)(hh:handedIn u=true)(q:Q u ⟨h,g,d,t+1,os⟩):
  m_ (l_ prog w) A (getAttr (.ref x) "number" iW) Q E ⟨h,g,d,t,os⟩:=by
 have a1:=Sr (M:=l_ prog w) X c.ga;have a2:=Sr (M:=l_ prog w) X c.ng;have a3:=Sr (M:=l_ prog w) X cn.cn;have a4:=T4 (M:=l_ prog w) X c.be;have a6:Tl (l_ prog w) h (VA (.ref x)) (.ref C):=(Tl.ld hx).andThen .now;obtain⟨cd,b1,b2,b3⟩:=cn.cd
 obtain⟨oC,g1,g2⟩:∃oC,h.get? C=some oC/\oC.data=.cls cd:=by
  unfold W' at b1;split at b1
  ·rename_i ho;cases b1;exact⟨_,X _ _ ho,rfl⟩
  ·cases b1
 unfold getAttr;unfold getAttrBy;refine a_ (wpAny_mkText (F_ (a_ (a6.at (a_ (a1.at ?_))))))
 have no:(onTheHeap (b_.ref C)&&UM "BaseException.__getattribute__" == UM "object.__getattribute__")=false:=by
  rw[show(UM "BaseException.__getattribute__" == UM "object.__getattribute__")=false from by decide +kernel,Uu]
 dsimp only;rw[no,if_neg i_];unfold getAttrByItsOwn;have f3:=SS.ga.bind (.ref x);have f4:(iW&&onTheHeap (UM "BaseException.__getattribute__"))=false:=by cases iW<;>rfl
 repeat (any_goals (first | assumption | (with_reducible refine a2.at ?_) | (with_reducible refine Rj hx ?_)  | wp_step))
 show RS _ _ (.call _ ⟨[_,_],[]⟩) _ _;refine RK SS.ga.plain PySem.F.entry_bexc_ga ?_;have k1:WG "BaseException.__getattribute__"=some .slot:=by decide +kernel
 have k2:splitId "BaseException.__getattribute__"=some ("BaseException", "__getattribute__"):=by decide +kernel
 have k3:=PySem.F.args_bexc_ga (.ref x) (.str "number" t);simp only[Sh,k1,k2];refine a_ ?_;unfold TJ;refine a_ (a6.at (a4.at ?_))
 repeat (any_goals (first | wp_step | assumption))
 repeat (any_goals (first | assumption | (with_reducible refine a3.at ?_) | (with_reducible refine Rj hx ?_)  | wp_step))
 rw[g2];refine d_ ?_;rw[b2,if_neg (by decide)];refine d_ ?_;unfold inDict;refine wpAny_nsGet hn.ns ?_;rw[hu];refine a_ (Uw (d_ (d_ ?_)));exact handed_on hh q
end
end DL
namespace DL
open PySem PySem.Spec PyProof.Rows L2 PySem.W
section
variable{prog:u_}{w:C_}{E:b_->c_->Prop}{g:Array VM}
variable {d:Xm}{t:Nat}{os:Wv}
variable{nm qn:Str}{N:g_}{bs bm:List b_}{hdct:Bool}{sn:List Str}{sub:List b_}{ab:Bool}{col:Option Bool}{dd:Option g_}{k0 k1 k2 k3 k5:Option b_}{mN:Str->Option b_}{oI:Obj}
theorem J7{Q:Fin->c_->Prop}(T:WN h VEs bm)(hC:h.get? C=some (UL nm qn C N bs bm hdct sn sub ab col dd k0 k1 k2 k3 k5 "ValueError.__new__"))(hN:h.Ns N mN)(hi:mN "__init__"=some (.ref fI))(hf:h.get? fI=some oI)(mQ:oI.cls=.type "function")(hz:us.length<=D_)(q:∀h' e,K_.MadeExcOf h h' e (.ref C) us->m_ (l_ prog w) A (call (.ref fI) (.ref e::us)) (λr s'=>r=.none/\Q (.done (.ret (.ref e))) s') E ⟨h',g,d,t,os⟩):
  m_ (l_ prog w) A (RV.«type.__call__» ⟨.ref C::us,[]⟩) Q E ⟨h,g,d,t,os⟩:=by
 have F:=Sq
 repeat (first | (with_reducible refine wpAny_madeBy_exc hC ?_) | (with_reducible refine Rj hC ?_) | wp_step)
 refine codeAny_call_builtin_code (UU _ F.quiet) (wpAny_check_new_subT F T hC (codeAny_exc_new_subT F T hC ?_ hz));show m_ _ _ _ _ _ _;generalize ht:(h.push { cls:=.type "tuple", data:=.seq us.toArray })=h1;have u1:∀b o,h.get? b=some o->h1.get? b=some o:=λb o e=>by rw[←ht];exact e_ _ e
 have s1:h1.objs.size=h.objs.size+1:=by rw[←ht];simp only[RT]
 generalize h2e:h1.push { cls:=.ref C,data:=.fields #[.ref h.objs.size,.none,.none,.none,.bool false,.none] }=h2;have u2:∀b o,h.get? b=some o->h2.get? b=some o:=λb o e=>by rw[←h2e];exact e_ _ (u1 b o e)
 have he:h2.get? (h.objs.size+1)=some { cls:=.ref C,data:=.fields #[.ref h.objs.size,.none,.none,.none,.bool false,.none] }:=by
  rw[←h2e,←s1];exact r_ _ rfl
 have hm:K_.MadeExcOf h h2 (h.objs.size+1) (.ref C) us:=⟨u2,Ss (Vg _),h.objs.size,he,Ss (x_ _),by
  rw[←h2e,←ht];exact e_ _ (K_.get?_push_at rfl rfl)⟩
 have me:(b_.ref C::bm).contains (.ref C)=true:=by simp
 unfold TJ
 repeat (first | (with_reducible refine Rj he ?_) | (with_reducible refine wpAny_isSubtype_exc (u2 _ _ hC) ?_;rw[me]) | wp_step)
 refine wpAny_typeLookup_tail (u2 _ _ hC) (hN.keeps u2) (T.keeps u2) F.mroIs F.init.lookup ?_;rw[hi];refine F_ (a_ (show m_ _ _ (bindSpecial _ _) _ _ _ from ?_));unfold bindSpecial;refine a_ (Vb (T:= "function") ⟨_,u2 _ _ hf,mQ⟩ ?_);rw[if_pos (by decide)];refine d_ (a_ (Q9 (q h2 _ hm) (λr s' hr=>?_) λ_ _ z=>z));obtain⟨rfl,hr⟩:=hr
 wp_walk
 exact hr
theorem J6{Q:b_->c_->Prop}(T:WN h VEs bm)(hC:h.get? C=some (UL nm qn C N bs bm hdct sn sub ab col dd k0 k1 k2 k3 k5 "ValueError.__new__"))(hN:h.Ns N mN)(hi:mN "__init__"=some (.ref fI))(hf:h.get? fI=some oI)(mQ:oI.cls=.type "function")(hz:us.length<=D_)(q:∀h' e,K_.MadeExcOf h h' e (.ref C) us->m_ (l_ prog w) (A.under (.builtin "type.__call__" ⟨.ref C::us,[]⟩)) (call (.ref fI) (.ref e::us)) (λr s'=>r=.none/\Q (.ref e) s') E ⟨h',g,d,t,os⟩):
  m_ (l_ prog w) A (call (.ref C) us) Q E ⟨h,g,d,t,os⟩:=by
 have f1:=tc_lookup;have f2:=tc_bind (.ref C);have isT:(⟨h,g,d,t,os⟩:c_).TypeIs (.ref C) "type":=⟨_,hC,rfl⟩;refine S3 (Vq (show m_ _ _ (callAny (.ref C) _) _ _ _ from ?_))
 repeat (any_goals (first | (with_reducible refine Rj hC ?_) | assumption | wp_step))
 refine⟨rfl,codeAny_call_builtin_at (UU _ (by decide +kernel)) entry_typeCall (wpAny_check_type_call_sub hC (J7 T hC hN hi hf mQ hz q))⟩
end
theorem N7{K:SY}{N:g_}{m:Str->Option b_}{n:Str}{v:b_}(X:K.In h)(G:h.Ns N m)(e:nsIn K N n=some (some v)):m n=some v:=by
 obtain⟨o,es,ep,g1,g2,_,g3⟩:=G;unfold nsIn at e;split at e
 ·rename_i ho;have z:=(X _ _ ho).symm.trans g1;cases z;cases g2;split at e
  ·rename_i en he;cases e
   have fd:nsFind es n=some en.val:=by
    unfold nsFind findBy;rw[←Array.find?_toList,he];rfl
   exact(g3 n).symm.trans fd
  ·split at e<;>cases e
 ·cases e
noncomputable def excInI(K:SY)(C fI:g_):Bool:=match K.lookup C with
 | some ⟨.type "type", _,.cls c,ss⟩=>(match c.mro,ss.toList with
  | .ref D::bm,[_,_,_,_,some (.builtin n),_]=>D == C&&n == "ValueError.__new__"&&!c.hasDel&&tailIn K VEs bm&&nsOkIn K c.ns&&nsIn K c.ns "__init__" == some (some (.ref fI))
  | _,_=>false)
 | _=>false
theorem FH{K:SY}(X:K.In h)(q:excInI K C fI=true):
  ∃t n nm qn bs hd sn sub ab col dd k0 k1 k2 k3 k5 mN,h.get? C=some (UL nm qn C n bs t hd sn sub ab col dd k0 k1 k2 k3 k5 "ValueError.__new__")/\h.Ns n mN/\mN "__init__"=some (.ref fI)/\WN h VEs t:=by
 unfold excInI at q;split at q
 case h_2=>cases q
 case h_1 dd cd sl ho =>
  split at q
  case h_2=>cases q
  case h_1 c1 t k0 k1 k2 k3 n k5 e1 e2 =>
   simp only[beq_iff_eq,I_,Uh] at q;obtain⟨⟨⟨⟨⟨z1,z2⟩,z3⟩,z4⟩,z5⟩,z6⟩:=q;subst z1 z2;obtain⟨a1,a2,a3,a4,a5,a6,a7,a8,a9,b1,b2⟩:=cd;have e3:sl=#[k0,k1,k2,k3,some (.builtin "ValueError.__new__"),k5]:=by rw[←e2]
   dsimp only at e1 z3 z5 z6;subst e1 z3 e3;obtain⟨m,dM⟩:∃m,h.Ns a4 m:=⟨_,.of_isNs (isNs_of_in X z5)⟩;refine⟨t,a4,a1,a5,a2,a6,a7,a8,a9,b1,dd,k0,k1,k2,k3,k5,m,X _ _ ho,dM,?_,tail_of_in X z4⟩;exact N7 X dM z6
section
variable{prog:u_}{w:C_}{E:b_->c_->Prop}{g:Array VM}
variable {d:Xm}{t:Nat}{os:Wv}
variable{nm qn:Str}{N e t0:g_}{bs bm:List b_}{hdct:Bool}{sn:List Str}{sub:List b_}{ab:Bool}{col:Option Bool}{dd:Option g_}{k0 k1 k2 k3 k5:Option b_}{u:b_}{sl:Array (Option b_)}
theorem N1{Q:b_->c_->Prop}(T:WN h VEs bm)(hC:h.get? C=some (UL nm qn C N bs bm hdct sn sub ab col dd k0 k1 k2 k3 k5 "ValueError.__new__"))(he:h.get? e=some ⟨.ref C,none,.fields #[.ref t0,.none,.none,.none,.bool false,.none],sl⟩)(q:∀h' tp,h'.get? e=some ⟨.ref C,none,.fields #[.ref tp,.none,.none,.none,.bool false,.none],sl⟩->(∀b o,b≠e->h.get? b=some o->h'.get? b=some o)->Q .none ⟨h',g,d,t,os⟩):
  m_ (l_ prog w) A (call (.builtin "ValueError.__init__") [.ref e,u]) Q E ⟨h,g,d,t,os⟩:=by
 have F:=Sq;refine S3 (RK F.init.plain F.initEntry (wpAny_check_init_subT F T hC he rfl ?_))
 wp_walk
 refine q _ h.objs.size ?_ λb o ne z=>?_
 ·rw[O_ _ (e_ _ he) rfl];rfl
 ·rw[B_ _ _ (QW ne)];exact e_ _ z
end
section
variable{B:BB}{a b:L_}{gb:M D}
def few9(i:Int):Prop:=i.natAbs < 10 ^ 99
theorem ID{i:Int}(h:few9 i):(txt i).length<=100:=by
 have:=int_text_length_le10 (a:=i) (k:=99) (by decide) h;have e:(txt i).length=(toString i).length:=by unfold txt;rw[PySem.ofString_length]
 omega
theorem log9{i:Int}(h:few9 i):i.natAbs.log2 < 1920:=by
 by_cases z:i.natAbs=0
 ·rw[z];decide
 ·exact(Nat.log2_lt z).mpr (Nat.lt_trans h (by decide))
noncomputable def tF1(x:Str)(ta:TE):TE:=λU H Q=>ta U H λv H1=>∃m:Int,v=.int m/\few9 m/\Q (.str (x++txt m)) H1
theorem JB{x:Str}{j:Nat}{p1 p2:Pos}{ta:TE}(hx:x.length<=100)(ha:PE X a ta):
  PE X (.JoinedStr [.Constant (.str x) j p1,.FormattedValue a (-1) none p2] pos) (tF1 x ta):=by
 intro aa s U H Q I h;have line:1000<=D_:=by rw[Rz];decide
 refine wpAny_JoinedStr (show Joins _ _ _ [eval (.Constant (.str x) j p1) X.env,eval (.FormattedValue a (-1) none p2) X.env] _ _ _ from ?_);refine V6 ⟨x,_,rfl,by rw[De];omega,?_⟩;rw[De];refine wpAny_FormattedValue_plain (thn (ha aa _ U H _ (I.tok _) h) λv s1 ⟨m',H1,I1,r1,m,e1,hm,q1⟩=>?_);subst e1;obtain⟨t,rfl⟩:=r1;have lm:=ID hm;refine wpAny_formatField_int (log9 hm) ⟨txt m,_,rfl,?_,?_⟩
 ·rw[strLen_append];omega
 ·exact⟨by rw[strLen_append];omega,⟨.str _,H1,(I1.tok _).tok _,⟨_,rfl⟩,q1⟩⟩
instance {i:Int}:Decidable (few9 i):=by unfold few9;infer_instance
end
noncomputable def RawE(K:SY)(e:g_)(x:Str):HO:=.ext λh=>∃t0 sl,h.get? e=some ⟨.ref (clOf K x),none,.fields #[.ref t0,.none,.none,.none,.bool false,.none],sl⟩
theorem Ga{P:u_}{w:C_}{H:Hp}{K:SY}{e t0:g_}{x:Str}{sl:Array (Option b_)}(q:h.get? e=some ⟨.ref (clOf K x),none,.fields #[.ref t0,.none,.none,.none,.bool false,.none],sl⟩):ObjOk P w H h e (RawE K e x):=
 ⟨⟨t0,sl,q⟩,⟨_,q⟩,λh1 h2 ⟨a,b,z⟩ k=>⟨a,b,k _ z⟩⟩
theorem O9{H:Hp}{a:g_}(h:H a=some o):upd H a o=H:=by
 funext b
 by_cases e:b=a
 ·subst e;rw[u3,h]
 ·rw[uS e]
structure XLog(K:SY)(fI:g_):Prop where
 obj:excInI K (clOf K "NoLog") fI=true
 num:XNum K (clOf K "NoLog") (clOf K "RoofError")
 kp:W5 K (.ref (clOf K "NoLog"))=true
 fn:typeIn K (.ref fI)=some (.type "function")
 sp:specialIn K (.ref (clOf K "RoofError")) "__getattribute__"=some (some (.builtin "type.__getattribute__"))
 rd:readsIn K (clOf K "RoofError") (.type "type")=true
 fc:findCls K (.ref (clOf K "RoofError")) (.type "type") "__init__"=some (.val (.builtin "ValueError.__init__"))
section
variable{H:Hp}{s:c_}
theorem Inv.track2{a:g_}(I:Inv X aa U H s)(I0:Inv X aa sf H0 s0)(e5:H a=none)(e6:s0.heap.get? a=none)(new:ObjOk X.prog X.w (upd H a o) s.heap a o):Inv X aa U (upd H a o) s:=by
 have up:=vq e5 o;have no:∀b q,s0.heap.get? b=some q->b≠a:=λb q z y=>by rw[y,e6] at z;cases z
 refine⟨I.ok,I.os,I.bare,⟨I.base.keep,I.base.slot,λb q z n hx=>?_,I.base.there,λb xs q=>up _ _ (I.base.tups b xs q),λb o u q=>up _ _ (I.base.frzs b o u q),λb ps q=>up _ _ (I.base.tbls b ps q)⟩,I.loc,I.cell,?_,λy c hy=>?_,λp hp=>?_,λb u q=>?_,I.len⟩
 ·obtain⟨q',k⟩:=I0.base.there b q z hx;rw[uS (no b q' k)];exact I.base.free b q z n hx
 ·obtain⟨_,⟨o',es,ep,e',_⟩,_⟩:=I0.loc;rw[uS (no _ _ e')];exact I.free
 ·obtain⟨v,o',e',_⟩:=I0.cell y c hy;rw[uS (no _ _ e')];exact I.freeC y c hy
 ·obtain⟨k1,k2,k3,k4,k5⟩:=I.pin p hp;refine⟨k1,?_,k3,k4,k5⟩;rw[uS (no _ _ (I0.pin p hp).1)];exact k2
 ·by_cases hb:b=a
  ·subst hb;rw[u3] at q;cases q;exact new
  ·rw[uS hb] at q;exact(I.hok b u q).stay (λc v _ z=>z) (λc z=>up _ _ z) (λc xs z=>up _ _ z) (λc _ _ z=>up _ _ z)
noncomputable def tInit(K:SY)(t:TA):TE:=λU H Q=>t U H λvs H1=>∃e u,vs=[.ref e,u]/\H1 e=some (RawE K e "NoLog")/\Q .non H1
theorem Mx{a1 a2:L_}{p0:Pos}{t:TA}(L:XLog X.K fI)(hg:Gl X "RoofError")(hm:X.mg "RoofError"=some (.ref (clOf X.K "RoofError")))(ha:PA X [a1,a2] t)(ht:eval (.Call (.Attribute (.Name "RoofError" p0) "__init__" aS) [a1,a2] [] ay) X.env=(do
   let ov ←eval (.Name "RoofError" p0) X.env
   WL aS.atName
   let (f,first) ←SE [ov] (getMethod ov "__init__" pl)
   callWith ay f first (P_ ay (f_ [a1,a2] X.env)) (VB ay (TV [] X.env))):=by rfl)(hs:f_ [a1,a2] X.env=(false,eval a1 X.env)::f_ [a2] X.env:=by rfl)(aB:(P_ ay (f_ [a2] X.env)).any (·.1)=false:=by rfl):
  PE X (.Call (.Attribute (.Name "RoofError" p0) "__init__" aS) [a1,a2] [] ay) (tInit X.K t):=by
 intro aa s U H Q I h;refine methodCall_KW (pl:=pl) (wE I hg hm ?_) ht;refine method_cls I.kIn L.sp (cls_value I.kIn L.rd L.fc (by decide +kernel) ?_);have hA:=ha ay aa _ U H _ (I.tok (s.toks+1)) h;show m_ _ _ (callWith ay (.builtin "ValueError.__init__") [] _ []) _ _ _;rw[hs] at hA ⊢;refine Vd (by show(false||(P_ ay (f_ [a2] X.env)).any (·.1))=false;rw[aB]<;>rfl) (TX ?_);refine thn hA λus s2 ⟨vs,H2,I2,r2,q2⟩=>?_
 obtain⟨e,u,rfl,h1,q⟩:=q2;cases r2 with
 | cons re r2 =>
  cases r2 with
  | cons ru r2 =>
   cases r2;cases re;obtain⟨⟨t0,sl,z⟩,_⟩:=I2.hok e _ h1;obtain⟨tl,n,nm,qn,bs,hd,sn,sub,ab,col,dd,k0,k1,k2,k3,k5,mN,hC,hN,hG,T⟩:=FH I2.kIn L.obj;obtain⟨hh,g,dr,tk,os⟩:=s2;refine N1 T hC z λh' tp w1 w2=>?_
   have I3:=I2.write (t':=tk) (x:=e) (e:=e) (o:=RawE X.K e "NoLog") (by rw[h1];exact trivial) (.inl rfl) (λb o ne q=>w2 b o ne q) ⟨_,w1⟩ (Ga w1);rw[O9 h1] at I3;exact⟨.non,H2,I3,rfl,q⟩
noncomputable def tNum(K:SY)(ta tv:TE):TS:=λD U H=>tv U H λy H1=>ta U H1 λx H2=>∃e k,x=.ref e/\y=.int k/\H2 e=some (RawE K e "NoLog")/\∀dx,H2 dx=none->dx≠e->D.nx U (upd (upd H2 e (ExO K e "NoLog" (some dx))) dx (.xd [("number", .int k)]))
theorem IN{o value:L_}{ta tv:TE}(L:XLog X.K fI)(ha:PE X o ta)(hv:PE X value tv)(hs:RM value (some (.Attribute o "number" aC)) pos.line X.env=pure false:=by rfl):PS X (.Assign [.Attribute o "number" aC] value pos) (tNum X.K ta tv):=by
 intro aa s U H D I h;refine plainObj_wpAny_Assign_Attribute (thn (hv aa s U H _ I h) λu s1 ⟨y,H1,I1,ry,q⟩=>thn (ha aa s1 U H1 _ I1 q) λov s2 ⟨x,H2,I2,rx,e,k,ex,ey,h2,q2⟩=>?_) hs;subst ex ey
 cases(show ov=b_.ref e from rx)
 obtain⟨cY,rfl⟩:=ry;obtain⟨⟨t0,sl,z⟩,_⟩:=I2.hok e _ h2;obtain⟨hh,g,dr,tk,os⟩:=s2;refine M4 L.num I2.kIn z λh' fY dx w1 w2 w3 w4 w5=>?_
 have free:H2 dx=none:=by
  cases zz:H2 dx with
  | none=>rfl
  | some o'=>obtain⟨_,qq⟩:=objThere (I2.hok _ _ zz);rw[w1] at qq;cases qq
 have I3:=I2.write (t':=fY) (x:=e) (e:=e) (o:=ExO X.K e "NoLog" (some dx)) (by rw[h2];exact trivial) (.inl rfl) (λb o ne q=>w5 b o ne q) ⟨_,w3⟩ (Dz w3 rfl rfl λut z=>by cases z;rfl)
 have I4:=DL.Inv.track2 I3 (a:=dx) (o:=.xd [("number", .int k)]) I2 (by rw[uS w2];exact free) w1 ⟨_,w4,λf=>by
  by_cases hf:f = "number"
  ·subst hf;rw[if_pos rfl];show RelO (Sj ("number":Str) [(("number":Str),V.int k)]) _;have:Sj ("number":Str) [(("number":Str),V.int k)]=some (.int k):=by simp[Sj]
   rw[this];exact⟨_,rfl⟩
  ·rw[if_neg hf]
   have:Sj f [(("number":Str),V.int k)]=none:=by
    have hb:(f == ("number":Str))=false:=beq_eq_false_iff_ne.mpr hf;simp only[Sj,hb]
   rw[this]
   exact trivial⟩
 exact⟨U,_,I4,q2 dx free w2⟩
end
noncomputable def spI(K:SY):Sp:=λvs H Q _=>∃e k,vs=[.ref e,.int k]/\few9 k/\H e=some (RawE K e "NoLog")/\∀dx,H dx=none->dx≠e->Q .non (upd (upd H e (ExO K e "NoLog" (some dx))) dx (.xd [("number", .int k)]))
section
variable{B:BB}{k kr:Nat}
noncomputable def mkLF(d:D):Option D:=match d with
 | .int i=>if few9 i then some (.exc "NoLog" (some i)) else none
 | _=>none
theorem JD(L:XLog X.K fI)(F:FnOk X.prog X.w X.K X.mg X.base CX0 k fI fd ["self", "number"] (spI X.K))(hb:Binds X.K fd ["self", "number"] [])(hr:Room kr X.A)(hm:X.mg "NoLog"=some (.ref (clOf X.K "NoLog")))(ha:ED X B e ga)(hk:k+1<=kr:=by decide)(hg:Gl X "NoLog":=by exact rfl)(he:f_ [e] X.env=(false,eval e X.env)::f_ [] X.env:=by rfl)(aB:(P_ pos (f_ [] X.env)).any (·.1)=false:=by rfl):
  ED X B (.Call (.Name "NoLog" np) [e] [] pos) (un1 mkLF ga):=by
 intro aa s U H Q I h;obtain⟨G,J,Γ,d,ae,r,e1,kk⟩:=h;obtain⟨d1,Γ1,e2,e3⟩:=uP e1;obtain⟨e4,rfl⟩:=u6 e3;unfold mkLF at e4;split at e4
 case h_2=>cases e4
 case h_1 n =>
 obtain⟨few,rfl⟩:=ve e4;have hA:=vI ha (wO (X:=X)) he;refine Rs (wE I hg hm ?_);refine W6 (h₀:=X.base) I.ok.mod.kin L.kp (thn (hA pos aa s U H (λvs H1=>∃J1,vs=[.int n]/\Rep X.K B G J1 H1 U ae/\Grow G J J1) I ⟨G,J,Γ,_,_,r,e2,λv H1 J1 r1 g1 h1=>⟨J1,by rw[uZ h1],r1,g1⟩⟩) λus s1 ⟨vs,H1,I1,rv,J1,ev,r1,g1⟩=>⟨I1.kIn,?_⟩) he aB;subst ev;rw[Wb];obtain⟨tl,n',nm,qn,bs,hd,sn,sub,ab,col,dd,k0,k1,k2,k3,k5,mN,hC,hN,hG,T⟩:=FH I1.kIn L.obj
 obtain⟨oI,mR,sh⟩:∃oI,s1.heap.get? fI=some oI/\oI.cls=.type "function":=by
  obtain⟨oI,z1,z2⟩:=RF.mp (show(X.K.lookup fI).map (·.cls)=_ from L.fn);exact⟨oI,I1.kIn _ _ z1,z2⟩
 have k9:us.length=1:=by rw[←rv.length];rfl
 have room:=(hr.mono hk).make (clOf X.K "NoLog") us [];obtain⟨h1,g,dr,tk,os⟩:=s1;refine J6 T hC hN hG mR sh (by rw[k9];decide) λh' a hM=>?_
 have F1:=BS I1.hok hM;obtain⟨_,_,_,_,_,_,_,free,_⟩:=id F1;obtain⟨t0,w1,_,_⟩:=hM.there;have I3:=DL.Inv.track2 (I1.kept (t':=tk) hM.keeps) (a:=a) (o:=RawE X.K a "NoLog") I1 free hM.new (Ga w1);have sp:spI X.K [.ref a,.int n] (upd H1 a (RawE X.K a "NoLog")) (λv H2=>v=.non/\∃dx,H1 dx=none/\dx≠a/\H2=upd (upd H1 a (ExO X.K a "NoLog" (some dx))) dx (.xd [("number", .int n)])) E0:=⟨a,n,rfl,few,u3,λdx z ne=>⟨rfl,dx,by rw[uS ne] at z;exact z,ne,by rw[OH]⟩⟩;have bb:=hb _ (b_.ref a::us) I3.kIn (by rw[Rx,Rp,k9];rfl);rw[Rx] at bb;refine S3 (R7 (F.run _ X.stack _ _ ⟨b_.ref a::us,[]⟩ (b_.ref a::us) [.ref a,.int n] _ E0 room (I3.env0.make (clOf X.K "NoLog") us []) bb (.cons rfl rv) sp) λrr s' hq=>?_);cases rr with
 | error ex=>exact hq.elim
 | ok fl =>
  cases fl with
  | ret u =>
   obtain⟨v,H',I4,sj,ev,dx,z1,z2,rfl⟩:=I3.after hq;subst ev;refine⟨sj,⟨.ref a,_,I4,rfl,?_⟩⟩;have iX:(upd H1 a (ExO X.K a "NoLog" (some dx))) dx=none:=by rw[uS z2];exact z1
   have rA:=r1.alloc free (ExO X.K a "NoLog" (some dx));refine kk _ _ _ (rA.alloc iX _) (g1.trans ((r1.growAlloc free _).trans (rA.growAlloc iX _))) (Is.exc (d:=some dx) (by rw[uS (QW z2),u3]) λk z=>?_);cases z;exact⟨dx,rfl,u3⟩
  | next=>exact hq.elim
  | brk=>exact hq.elim
  | cont=>exact hq.elim
noncomputable def numF(d:D):Option D:=match d with
 | .exc x (some k)=>if x = "NoLog" then some (.int k) else none
 | _=>none
theorem Pe(hX:xTab X.K=true)(L:XLog X.K fI)(ha:ED X B e ga)(hb:Sw e "number" X.env (eval e X.env)=eval e X.env:=by rfl):ED X B (.Attribute e "number" pos) (un1 numF ga):=by
 intro aa s U H Q I h;obtain⟨G,J,Γ,d,ae,r,e1,kk⟩:=h;obtain⟨d1,Γ1,e2,e3⟩:=uP e1;obtain⟨e4,rfl⟩:=u6 e3;unfold numF at e4;split at e4
 case h_2=>cases e4
 case h_1 x n =>
 obtain⟨rfl,rfl⟩:=ve e4;refine MI hb (thn (ha aa s U H (λv H1=>∃J1,Rep X.K B G J1 H1 U ae/\Grow G J J1/\Is X.K J1 (.exc "NoLog" (some n)) v) I ⟨G,J,Γ,_,_,r,e2,λv H1 J1 r1 g1 h1=>⟨J1,r1,g1,h1⟩⟩) λu s1 ⟨v,H1,I1,rv,J1,r1,g1,h1⟩=>?_);obtain⟨a,d,rfl,z1,z2⟩:=Aq h1
 cases(show u=b_.ref a from rv)
 obtain⟨dx,rfl,z3⟩:=z2 n rfl;obtain⟨o,vs,y1,y2,y3,y4⟩:=En I1 (r1.iH _ _ z1);obtain⟨mA,x1,x2⟩:=I1.hok dx _ (r1.iH _ _ z3);obtain⟨oc,od,rJ,cM⟩:=o;cases y2;cases y3;have y5:=y4 dx rfl;cases y5;have lk:Sj ("number":Str) [(("number":Str),V.int n)]=some (.int n):=by simp[Sj]
 have x3:=x2 "number";rw[lk] at x3;obtain⟨w,hw,im⟩:=RelO.some_of x3;obtain⟨o8,g,dr,tk,os⟩:=s1;obtain⟨tw,rfl⟩:=id im;exact O5 (GW hX (by decide)) L.num I1.kIn y1 x1 hw rfl ⟨.int n,H1,I1.tok _,⟨_,rfl⟩,kk _ _ _ r1 g1 (Is.int _)⟩
end
noncomputable def nine:List Str:=["NoKin", "NoHouse", "NoRoad", "Ring", "NoHold", "NoLetter", "NoStep", "NoText", "NoRow"]
noncomputable def xAll(K:SY):Bool:=xTab K&&xTop K&&(yNames.all λx=>nsIn K Q6 x == some (some (.ref (clOf K x))))&&(nine.all λx=>xcIn K (clOf K x))&&nine.all λx=>W5 K (.ref (clOf K x))
structure Exs(K:SY)(mg:Str->Option b_):Prop where
 tab:xTab K=true
 top:xTop K=true
 m:∀x,yNames.contains x=true->mg x=some (.ref (clOf K x))
 xc:∀x,nine.contains x=true->xcIn K (clOf K x)=true
 kp:∀x,nine.contains x=true->W5 K (.ref (clOf K x))=true
theorem Jz{K:SY}(X:K.In h)(G:h.Ns Q6 mg)(b:xAll K=true):Exs K mg:=by
 unfold xAll at b;simp only[I_] at b;obtain⟨⟨⟨⟨b1,b2⟩,b3⟩,b4⟩,b5⟩:=b;exact⟨b1,b2,λx hx=>mg_of X G (beq_iff_eq.mp (t_.mp b3 x (by simpa using hx))),λx hx=>t_.mp b4 x (by simpa using hx),λx hx=>t_.mp b5 x (by simpa using hx)⟩
noncomputable def xlogB(K:SY)(fI:g_):Bool:=excInI K (clOf K "NoLog") fI&&(Vm K (.ref (clOf K "NoLog")) "__setattr__" == some (some (.builtin "object.__setattr__")))&&(Vm K (.ref (clOf K "NoLog")) "number" == some none)&&(V5 K (clOf K "NoLog") (.type "object") == some true) &&
 (match W' K (clOf K "NoLog") with | some cd=>cd.hasDict&&cd.mro == [.ref (clOf K "NoLog"),.ref (clOf K "RoofError"),.type "ValueError", .type "Exception", .type "BaseException", .type "object"] | none=>false) &&
 W5 K (.ref (clOf K "NoLog"))&&(typeIn K (.ref fI) == some (.type "function"))&&(specialIn K (.ref (clOf K "RoofError")) "__getattribute__" == some (some (.builtin "type.__getattribute__")))&&readsIn K (clOf K "RoofError") (.type "type") &&
 (match findCls K (.ref (clOf K "RoofError")) (.type "type") "__init__" with | some (.val (.builtin i))=>i == "ValueError.__init__" | _=>false)
theorem LF{K:SY}(b:xlogB K fI=true):XLog K fI:=by
 unfold xlogB at b;simp only[I_,beq_iff_eq] at b;obtain⟨⟨⟨⟨⟨⟨⟨⟨⟨b1,b2⟩,b3⟩,b4⟩,b5⟩,b6⟩,b7⟩,b8⟩,b9⟩,mS⟩:=b;refine⟨b1,⟨b2,b3,b4,?_⟩,b6,b7,b8,b9,?_⟩
 ·split at b5
  ·rename_i cd aT;simp only[I_,beq_iff_eq] at b5;exact⟨cd,aT,b5.1,b5.2⟩
  ·cases b5
 ·split at mS
  ·rename_i i hi;rw[hi,beq_iff_eq.mp mS]
  ·cases mS
noncomputable def clsDef(s:Rm)(i:Nat):Rm:=match s with
 | .ClassDef _ _ _ b _ _ _ _ _ _ _=>b.getD i (.Pass ⟨0,0,0,0⟩)
 | _=>.Pass ⟨0,0,0,0⟩
end DL
namespace DL
open PySem PySem.W PySem.Spec PyProof.Rows L2
end DL
namespace DL
open PySem PySem.Spec PyProof.Rows L2 PySem.W
section
variable{B:BB}{a b:L_}{gb:M D}
theorem IY:OpR X (R5 .Mult) (λx y H Q=>∃z n,x=.str z/\y=.int n/\MulOk z n/\Q (.str (Txt.mul z n)) H):=by
 intro aa s U H x y v u Q I rx ry h;obtain⟨z,n,rfl,rfl,ok,q⟩:=h;obtain⟨t,rfl⟩:=rx;obtain⟨t',rfl⟩:=ry;exact mul ok λt' k=>⟨.str _,H,I.tok _,⟨_,rfl⟩,q⟩
noncomputable def mulSF(a b:D):Option D:=match a,b with
 | .str z,.int n=>if 0<=n/\n<=10000/\z.length<=100 then some (.str (Txt.mul z n)) else none
 | _,_=>none
theorem N8{z:Str}{n:Int}(h:0<=n/\n<=10000/\z.length<=100):MulOk z n:=by
 obtain⟨h1,h2,h3⟩:=h;refine⟨by simp;omega,λc _ w=>?_,λc _=>?_⟩
 ·have:(2 ^ 63 - 1) / n>=100:=by
   rw[ge_iff_le,Int.le_ediv_iff_mul_le (by omega)];omega
  omega
 ·have:z.length*n.toNat<=100*10000:=Nat.mul_le_mul h3 (by omega);unfold tooLong;rw[Rz];simp;omega
theorem Ks(ha:ED X B a ga)(hb:ED X B b gb):ED X B (.BinOp a .Mult b pos) (op2 mulSF ga gb):=wW IY (λa b d e B G I H U Γ x y Q r hx hy k=>by
 unfold mulSF at e;split at e
 ·obtain⟨ok,rfl⟩:=ve e;exact⟨_,_,vQ hx,uZ hy,N8 ok,k.now r (Is.str _)⟩
 ·cases e) ha hb
end
def Fly(X:Cx):b_->c_->Prop:=λe s=>∃a C aa U H h₁,e=.ref a/\Inv X aa U H s/\(∀b o,X.s₀.heap.get? b=some o->b∉X.ex->∃o',h₁.get? b=some o')/\(∀p∈X.pn++aa,∃o,h₁.get? p.1=some o)/\Lasts h₁ s.heap/\Flies H h₁ s.heap a C/\Xz X C U H
section
variable{B:BB}{cl:Nat->g_}
theorem Fly.out{e:b_}{s:c_}(h:Fly X e s):X.xe e s:=by
 obtain⟨a,C,aa,U,H,h₁,rfl,I,c1,c2,c3,F,z⟩:=h;exact z aa s h₁ a I c1 c2 c3 F
theorem Xz.fly{H:Hp}(z:Xz X C U H):Xz (X.wish (Fly X)) C U H:=λaa s h₁ a I c1 c2 c3 F=>⟨a,C,aa,U,H,h₁,rfl,I.unwish,c1,c2,c3,F,z⟩
theorem IE(dQ:X.stack=X.env::X.outer)(iU:X.env.frame=some X.env.locals):Um (l_ X.prog X.w) X.A X.env (Fly X):=by
 rintro e s ⟨a,C,aa,U,H,h₁,rfl,I,c1,c2,c3,F,z⟩;have fr:=I.ok.frames;have st:=I.stack;rw[dQ] at fr st;refine EQ fr iU st I.hok c3 F λh' ch a0 fl ha T k1 k2 k3=>?_
 have F2:Flies H h₁ h' a C:=AV I.hok c3 st T ha k3;rw[←dQ] at T;have I1:=T.inv I c1 c2;have l1:=T.lasts c3;obtain⟨oe,vs,T',oT,ts,e1,⟨e2,e3⟩,e4,e5,e6,e7,e8,e9,mL⟩:=k3;obtain⟨uu,uv,uw,j1,j2,j3,j4,j5,j6,j7⟩:=F2;rw[e1] at j1;cases j1;rw[e4] at j3;cases j3
 have q:H T'=none/\h₁.get? T'=none:=by
  rcases j7 with j | ⟨T2,ux,uy,i1,i2,i3,i4,i5,i6,i7⟩
  ·rw[e5] at j;cases j
  ·rw[e5] at i1;cases i1;exact⟨i6,i7⟩
 have fG:3 < ts.size:=(E_.mp mL).1;unfold cameBackBy WA;refine a_ (Rt e1 e4 e5 ?_);rw[if_neg (show ¬((b_.ref T' == b_.none)=true) by simp)];refine a_ (Rt e1 e4 e5 ?_);rw[if_pos (show(b_.ref T' != b_.none)=true by simp)];refine Se e8 e9 fG ?_;have cG:∀b,b≠T'->(h'.update T' (U7 (·.setIfInBounds 3 (X.env.frame.elim b_.none λf=>R9 f)))).get? b=h'.get? b:=λb hb=>B_ _ _ (QW hb)
 have T3:Turn H h₁ h' (h'.update T' (U7 (·.setIfInBounds 3 (X.env.frame.elim b_.none λf=>R9 f)))) (frs X.stack) [T']:=by
  refine⟨λb hb=>?_,λb o e n _=>(cG b λy=>n (by rw[y];exact .head _)).trans e,λb o e m=>⟨o.slots,(cG b λy=>?_).trans e⟩⟩
  ·rw[q_.mp hb];exact⟨q.1,q.2,_,_,e8,e9⟩
  ·obtain⟨_,o',e',d⟩:=I1.stack.mem m;have e2:h'.get? b=some o':=e';rw[y,e8] at e2;cases e2;exact d ts e9
 have o9:=SJ e9 (·.setIfInBounds 3 (X.env.frame.elim b_.none λf=>R9 f));have g3:=O_ (U7 (·.setIfInBounds 3 (X.env.frame.elim b_.none λf=>R9 f))) e8 (Sz o9);exact⟨a,C,aa,U,H,h₁,rfl,T3.inv I1 c1 c2,c1,c2,T3.lasts l1,⟨oe,vs,a0,(cG a (QW e7)).trans e1,e2,e4,e3,j5,j6,.inr ⟨T',_,_,e5,e7,g3,o9,by rw[UT];exact fG,q.1,q.2⟩⟩,z⟩
noncomputable def forXM(az:D->M Unit)(body:M Fl)(mx:M Nat):List D->M Nat
 | []=>λ_=>none
 | d::ds=>bnd (az d) λ_=>orX mx (bnd body λf=>match f with
  | .nx=>forXM az body mx ds
  | .ct=>forXM az body mx ds
  | _=>λ_=>none)
noncomputable def forX(it:M (List D))(az:D->M Unit)(body:M Fl)(mx:M Nat):M Nat:=bnd it λds=>forXM az body mx ds
theorem Lf{iter:L_}{g:M Fl}{mx:M Nat}(dQ:X.stack=X.env::X.outer)(iU:X.env.frame=some X.env.locals)(hc:X.calm=true)(hi:∀E,ITD (X.wish E) B tg iter it)(hg:∀E,GD (X.wish E) B m tg az)(hb:∀E,SDs (X.wish E) B body g)(hx:∀E,SXs (X.wish E) B cl body mx)(hs:∀x,Ry iter X.env x=pure x:=by intros;rfl):SX X B cl (.For tg iter body [] pos) (forX it az g mx):=by
 intro aa s U H D I q;have gD:PSs (X.wish (Fly X)) body λD U H=>tS X.K B g D U H\/tSX (X.wish (Fly X)) B cl mx D U H:=λaa s U H D I q=>q.elim (hb _ aa s U H D I) (hx _ aa s U H D I)
 refine Q9 (Ek (X:=X.wish (Fly X)) (IE dQ iU) hc (hi _) (hg _) gD hs aa s U H D (I.wish _) ?_) (λf s' q=>q.unwish) λe s' z=>z.out
 clear I;obtain⟨G,I,Γ,C,ae,r,e1,k⟩:=q;obtain⟨ds,Γ1,e2,e3⟩:=uP e1;refine⟨G,I,Γ,ds,Γ1,r,e2,λJ H1 I1 r1 g1 y=>?_⟩;refine⟨λi m U H=>∃I2 Γ2,Rep X.K B G I2 H U Γ2/\Grow G I1 I2/\forXM az g mx (ds.drop i) Γ2=some (C,ae)/\i<=ds.length/\m=ds.length - i,⟨ds.length,I1,Γ1,r1,Grow.refl _ _,by simpa using e3,Rw _,rfl⟩,?_⟩;rintro i m' aQ H2 ⟨I2,Γ2,r2,g2,e4,bC,rfl⟩;obtain⟨yg,ys⟩:=y i H2 (g2.up.trans r2.iH)
 rcases Ux i ds.length with bz | jS
 ·obtain⟨go,yld⟩:=yg ds[i] (h_ bz);rw[Q0 bz] at e4;obtain⟨u,aI,e5,e6⟩:=uP e4
  have sk:∃N:L2.St->Hp->Prop,(∀ai H',N ai H'->∃m',m' < ds.length - i/\∃I2 Γ2,Rep X.K B G I2 H' ai Γ2/\Grow G I1 I2/\forXM az g mx (ds.drop (i+1)) Γ2=some (C,ae)/\i+1<=ds.length/\m'=ds.length - (i+1)) ∧
    ∀dZ H4 I4,Rep X.K B G I4 H4 dZ aI->Grow G I2 I4->tS X.K B g { D with nx:=N,ct:=N,bk:=D.nx } dZ H4\/tSX (X.wish (Fly X)) B cl mx { D with nx:=N,ct:=N,bk:=D.nx } dZ H4:=by
   unfold orX at e6;cases em:mx aI with
   | some w =>
    rw[em] at e6;cases e6;exact⟨λ_ _=>False,λ_ _ z=>z.elim,λdZ H4 I4 r4 g4=>.inr ⟨G,I4,aI,C,ae,r4,em,λcF H5 I5 r5 g5=>(k cF H5 I5 r5 (g1.trans (g2.trans (g4.trans g5)))).fly⟩⟩
   | none =>
    rw[em] at e6;obtain⟨fl,aJ,e7,e8⟩:=uP e6
    have e9:(fl=.nx\/fl=.ct)/\forXM az g mx (ds.drop (i+1)) aJ=some (C,ae):=by
     cases fl with
     | nx=>exact⟨.inl rfl,e8⟩
     | ct=>exact⟨.inr rfl,e8⟩
     | bk=>cases e8
     | rt v=>cases e8
    refine⟨λai H'=>∃I3,Rep X.K B G I3 H' ai aJ/\Grow G I1 I3,λai H' ⟨I3,r3,g3⟩=>⟨_,by omega,I3,aJ,r3,g3,e9.2,bz,rfl⟩,λdZ H4 I4 r4 g4=>.inl ⟨G,I4,aI,fl,aJ,r4,e7,λcF H5 I5 r5 g5=>?_⟩⟩;have gg:∃I3,Rep X.K B G I3 H5 cF aJ/\Grow G I1 I3:=⟨I5,r5,g2.trans (g4.trans g5)⟩
    rcases e9.1 with rfl | rfl
    ·exact gg
    ·exact gg
  obtain⟨N,hN,hB⟩:=sk;refine .inr ⟨go,N,hN,λx H3 hy=>?_⟩;have turn:∀I3,Rep X.K B G I3 H3 aQ Γ2->Grow G I2 I3->Is X.K I3 ds[i] x->tGD X.K B m az x aQ H3 λaQ H2=>tS X.K B g { D with nx:=N,ct:=N,bk:=D.nx } aQ H2\/tSX (X.wish (Fly X)) B cl mx { D with nx:=N,ct:=N,bk:=D.nx } aQ H2:=λI3 r3 g3 hx=>⟨G,I3,Γ2,ds[i],aI,r3,hx,e5,λdZ H4 I4 r4 g4 _=>hB dZ H4 I4 r4 (g3.trans g4)⟩
  rcases yld x H3 hy with⟨rfl,hx⟩ | ⟨p,es,xs,dJ,rfl,dL,rfl,hx⟩
  ·exact turn I2 r2 (Grow.refl _ _) (hx.mono g2.up)
  ·refine turn _ (r2.alloc dL _) (r2.growAlloc dL _) ?_;rw[dJ];exact Is.tup (SqT.of u3) ((hx.mono g2.up).mono (vq (r2.iFree dL) _))
 ·have cN:i=ds.length:=by omega
  subst cN;rw[UZ] at e4;cases e4
end
end DL
namespace DL
open PySem PySem.W PySem.Spec PyProof.Rows L2 PySem.SeqAt
theorem BX:∀{bs:List Bool}{ac:List b_},Vals (bs.map V.bl) ac->ac=bs.map b_.bool
 | [],ac,h=>by cases h;rfl
 | b::bs,ac,h=>by
  cases h with
  | cons h1 h2 =>
   cases h1;rw[BX h2];rfl
theorem yJ{K:PySem.W.Frag}{I:Hp}:∀{bs:List Bool}{zs:List V},IsA K I (bs.map D.bl) zs->zs=bs.map V.bl
 | [],zs,h=>List.eq_nil_of_length_eq_zero h.length.symm
 | b::bs,zs,h=>by
  match zs,h with
  | [],h=>exact absurd h.length (by simp)
  | z::zs,h =>
   obtain⟨v,h1,h2⟩:=h.get (i:=0) (d:=.bl b) rfl;cases h1
   have t:IsA K I (bs.map D.bl) zs:=by
    rw[Q7,IsA] at h;obtain⟨_,_,e,_,h3⟩:=h;cases e;exact h3
   rw[vx h2,yJ t];rfl
section
variable{B:BB}{t:M (List D)}
theorem Dr{k:Bool}{bs:List Bool}:∀y∈(bs.map b_.bool).toArray,∀(A:Rh) (s:c_),WJ A s y (.bool k) (VN k y):=λy hy A s=>by
 obtain⟨b,_,rfl⟩:=Re.mp (List.mem_toArray.mp hy);exact WJ.bool_bool b k
theorem IV:MtR X "list.count" (λx xs H Q=>∃(p:g_) (bs:List Bool) (k:Bool),x=.ref p/\xs=[.bl k]/\SqL X.K H p (bs.map V.bl)/\Q (.int (bs.count k:Nat)) H):=by
 intro aa s U H x xs v us Q I rx rs h;obtain⟨p,bs,k,rfl,rfl,hq,q⟩:=h;cases rx;obtain⟨u,rfl,ru⟩:=vals1 rs;cases ru;obtain⟨ac,rv,⟨o,n,ho,hc,hd,hs⟩,hz⟩:=I.list hq;have:=BX rv;subst this;obtain⟨cls,so,data,sl⟩:=o;simp only at hc hd hs;subst hc hd hs;refine V' PySem.F.slot_list_count ⟨_,ho,rfl⟩ PySem.F.entry_list_count (PySem.F.args_list_count_2 _ _) (list_countAt p (bs.map b_.bool).toArray n _ sl (.bool k) (VN k)) ⟨ho,λy hy=>Dr y hy _ _,?_⟩
 have e:(bs.map b_.bool).toArray.toList.countP (VN k)=bs.count k:=by
  rw[show(bs.map b_.bool).toArray.toList=bs.map b_.bool from rfl,List.countP_map];rfl
 rw[e];exact⟨.int _,H,I.tok _,⟨_,rfl⟩,q⟩
theorem MH:MtR X "list.index" (λx xs H Q=>∃(p:g_) (bs:List Bool) (k:Bool) (j:Nat),x=.ref p/\xs=[.bl k]/\SqL X.K H p (bs.map V.bl)/\bs.length<=1000/\bs[j]?=some k/\(∀m,m < j->bs[m]?=some !k)/\Q (.int (j:Nat)) H):=by
 intro aa s U H x xs v us Q I rx rs h;obtain⟨p,bs,k,j,rfl,rfl,hq,hl,h1,h2,q⟩:=h;cases rx;obtain⟨u,rfl,ru⟩:=vals1 rs;cases ru;obtain⟨ac,rv,⟨o,n,ho,hc,hd,hs⟩,hz⟩:=I.list hq;have:=BX rv;subst this;obtain⟨cls,so,data,sl⟩:=o;simp only at hc hd hs;subst hc hd hs;obtain⟨hj,e1⟩:=n_.mp h1;refine V' PySem.F.slot_list_index ⟨_,ho,rfl⟩ PySem.F.entry_list_index (PySem.F.args_list_index_2 _ _) (list_indexAt p (bs.map b_.bool).toArray n _ sl (.bool k) (VN k) j (by simpa using hj) (by omega) (by simp[e1,VN]) λm hm lt=>?_) ⟨ho,λy hy=>Dr y hy _ _,⟨.int _,H,I.tok _,⟨_,rfl⟩,q⟩⟩;obtain⟨fW,e2⟩:=n_.mp (h2 m lt);simp[e2,VN]
noncomputable def cbF(a:D)(ds:List D):Option D:=match a,ds with
 | .lst xs,[.bl k]=>match blsD xs with
  | some bs=>some (.int (bs.count k:Nat))
  | none=>none
 | _,_=>none
noncomputable def ixB(k:Bool):Nat->List Bool->Option Nat
 | _,[]=>none
 | n,b::bs=>if b=k then some n else ixB k (n+1) bs
theorem ER{k:Bool}:∀{bs:List Bool}{n j:Nat},ixB k n bs=some j->n<=j/\bs[j - n]?=some k/\∀m,m < j - n->bs[m]?=some !k
 | [],n,j,h=>by cases h
 | b::bs,n,j,h=>by
  rw[ixB] at h;by_cases z:b=k
  ·rw[if_pos z] at h;cases h;subst z;exact⟨x_ _,by simp,λm hm=>by omega⟩
  ·rw[if_neg z] at h;obtain⟨h1,h2,h3⟩:=ER h;have e:j - n=(j - (n+1))+1:=by omega
   refine⟨by omega,by rw[e,RP];exact h2,λm hm=>?_⟩;cases m with
   | zero=>cases b<;>cases k<;>simp at z ⊢
   | succ m=>rw[RP];exact h3 m (by omega)
noncomputable def ibF(a:D)(ds:List D):Option D:=match a,ds with
 | .lst xs,[.bl k]=>match blsD xs with
  | some bs=>if bs.length<=1000 then(ixB k 0 bs).map λj=>.int (j:Nat) else none
  | none=>none
 | _,_=>none
noncomputable def mbV(F:D->List D->Option D)(i:Nat)(t:M (List D)):M D:=bnd (nm i) λa=>bnd t λds=>lft (F a ds)
theorem HL{i:Nat}{z:Str}{p1:Pos}(hv:ED X B (.Name z p1) (nm i))(ha:AD X B [e] t)(bY:Sw (.Name z p1) "count" X.env (eval (.Name z p1) X.env)=eval (.Name z p1) X.env:=by rfl)(bU:((P_ ay (f_ [e] X.env)).all (λx=>!x.1)&&(VB ay (TV [] X.env)).all (λx=>x.1.isSome)&&decide ([e].length+([]:List Ud).length+(if([]:List Ud).isEmpty then 0 else 1) < 30))=true:=by rfl)(bZ:(aS.endLine == ay.line)=true:=by rfl)(hs:f_ [e] X.env=(false,eval e X.env)::f_ [] X.env:=by rfl)(bD:(P_ ay (f_ [] X.env)).any (·.1)=false:=by rfl):
  ED X B (.Call (.Attribute (.Name z p1) "count" aS) [e] [] ay) (mbV cbF i t):=
 PE.imp (zZ T9 PySem.F.slot_list_count PySem.F.type_list_count IV hv ha bY bU bZ hs bD) λU H Q q=>by
  obtain⟨G,I,Γ,d,ae,r,e1,k⟩:=q;obtain⟨d1,Γ1,e2,e3⟩:=uP e1;obtain⟨ds,Γ2,e4,e5⟩:=uP e3;obtain⟨e6,rfl⟩:=u6 e5;unfold cbF at e6;split at e6
  ·rename_i xs n;split at e6
   ·rename_i bs en;cases e6;refine⟨G,I,Γ,_,Γ1,r,e2,λv H1 I1 r1 g1 h1=>?_⟩;rw[yl en] at h1;have h0:=h1;obtain⟨q,zs,rfl,h3,h4⟩:=u5 h1;have:=yJ h4;subst this;refine⟨.inl ⟨rfl,_,(Same.rdK r1.iH h3).sq⟩,G,I1,Γ1,_,_,r1,e4,λvs H2 I2 r2 g2 h2=>?_⟩;obtain⟨w,rfl,hw⟩:=h2.one;rw[vx hw];obtain⟨q',ei,e',i3,i4⟩:=u5 (h0.mono g2.up);cases e';have:=yJ i4;subst this;exact⟨q,bs,n,rfl,rfl,(Same.rdK r2.iH i3).sq,k _ _ _ r2 (g1.trans g2) (Is.int _)⟩
   ·cases e6
  ·cases e6
theorem MW{i:Nat}{z:Str}{p1:Pos}(hv:ED X B (.Name z p1) (nm i))(ha:AD X B [e] t)(bY:Sw (.Name z p1) "index" X.env (eval (.Name z p1) X.env)=eval (.Name z p1) X.env:=by rfl)(bU:((P_ ay (f_ [e] X.env)).all (λx=>!x.1)&&(VB ay (TV [] X.env)).all (λx=>x.1.isSome)&&decide ([e].length+([]:List Ud).length+(if([]:List Ud).isEmpty then 0 else 1) < 30))=true:=by rfl)(bZ:(aS.endLine == ay.line)=true:=by rfl)(hs:f_ [e] X.env=(false,eval e X.env)::f_ [] X.env:=by rfl)(bD:(P_ ay (f_ [] X.env)).any (·.1)=false:=by rfl):
  ED X B (.Call (.Attribute (.Name z p1) "index" aS) [e] [] ay) (mbV ibF i t):=
 PE.imp (zZ T9 PySem.F.slot_list_index PySem.F.type_list_index MH hv ha bY bU bZ hs bD) λU H Q q=>by
  obtain⟨G,I,Γ,d,ae,r,e1,k⟩:=q;obtain⟨d1,Γ1,e2,e3⟩:=uP e1;obtain⟨ds,Γ2,e4,e5⟩:=uP e3;obtain⟨e6,rfl⟩:=u6 e5;unfold ibF at e6;split at e6
  ·rename_i xs n;split at e6
   ·rename_i bs en;by_cases ok:bs.length<=1000
    ·rw[if_pos ok,RF] at e6;obtain⟨j,ej,rfl⟩:=e6;obtain⟨_,j1,j2⟩:=ER ej;refine⟨G,I,Γ,_,Γ1,r,e2,λv H1 I1 r1 g1 h1=>?_⟩;rw[yl en] at h1;have h0:=h1;obtain⟨q,zs,rfl,h3,h4⟩:=u5 h1;have:=yJ h4;subst this;refine⟨.inl ⟨rfl,_,(Same.rdK r1.iH h3).sq⟩,G,I1,Γ1,_,_,r1,e4,λvs H2 I2 r2 g2 h2=>?_⟩;obtain⟨w,rfl,hw⟩:=h2.one;rw[vx hw];obtain⟨q',ei,e',i3,i4⟩:=u5 (h0.mono g2.up);cases e';have:=yJ i4;subst this;exact⟨q,bs,n,j,rfl,rfl,(Same.rdK r2.iH i3).sq,ok,j1,j2,k _ _ _ r2 (g1.trans g2) (Is.int _)⟩
    ·rw[if_neg ok] at e6;cases e6
   ·cases e6
  ·cases e6
end
end DL
namespace DL
open PySem PySem.W PySem.Spec PyProof.Rows L2
end DL
namespace L2
open PySem PySem.Spec PyProof.Rows
theorem Dp{p p':Pos}{c cv:b_}:∀(l:List b_),VQ l->Ul p' (l++[R9 p.line,R9 p.col,c])=some cv->Ul p' l=some cv\/cv=c
 | [],_,h=>by
  right;simp only[Wb,Ul,R9] at h;split at h
  ·exact(QX h).symm
  ·cases h
 | .int a t::.int b u::x::r,ok,h=>by
  simp only[List.cons_append,Ul] at h ⊢;split at h
  ·rename_i q;rw[if_pos q];exact .inl h
  ·rename_i q;rw[if_neg q];exact Dp r ok h
theorem GI{a b:Int}{c:b_}:∀(l:List b_),VQ l->VQ (l++[R9 a,R9 b,c])
 | [],_=>trivial
 | .int _ _::.int _ _::x::r,ok=>GI r ok
section
variable{H:Hp}{s:c_}
theorem Nf{P c:g_}{ps:Array b_}{oc:Obj}{vs:Array b_}{t:Tok}(I:Inv X aa U H s)(hP:H P=some (.tbl q))(fZ:s.heap.get? P=some { cls:=.none,data:=.fields ps })(ok:VQ ps.toList)(hx:K_.ExtBut P s.heap h')(hc:s.heap.objs.size<=c)(ec:h'.get? c=some oc)(hd:oc.data=.fields vs)(hv:vs[1]?=some (.str q t))(pc:h'.get? P=some { cls:=.none,data:=.fields (ps++#[R9 pos.line,R9 pos.col,.ref c]) }):
  Inv X aa U (upd H c (.frz oc (.own P))) { s with heap:=h',toks:=t' }:=by
 have hf:=I.hok.fresh hc;have ne:∀{b u},H b=some u->b≠c:=λ{b u} e=>vM e hf
 have nP:∀{b},H b=none->b≠P:=λ{b} n z=>by rw[z,hP] at n;cases n
 have old:∀{q':Str}{aC:Pos}{cv:b_},Ul aC ps.toList=some cv->∃c oc vs t,cv=.ref c/\H c=some (.frz oc (.own P))/\oc.data=.fields vs/\vs[1]?=some (.str q t):=λ{q' aC cv} e=>by
  obtain⟨uz,e1,_,e3⟩:=(show ObjOk X.prog X.w H s.heap P (.tbl q) from I.hok P _ hP);rw[fZ] at e1;cases e1;exact e3 _ _ e
 have:=I.step (H':=upd H c (.frz oc (.own P))) (h':=h') (g':=s.gens) (d':=s.drawn) (t':=t') (ch:=[]) (λb z=>nomatch z) (λb o _ _ _ e n=>hx b o (nP n) e) (λb o _ _ _ e n=>⟨o.slots,hx b o (nP n) e⟩)
  (λb o _ e n=>by rw[uS (H_ (G_ (w_ e) hc))];exact n) (λb o _ e=>by
   by_cases z:b=P
   ·exact⟨_,by rw[z];exact pc⟩
   ·exact⟨o,hx b o z e⟩) (λb xs e=>by rw[uS (ne e)];exact e) (λb o u e=>by rw[uS (ne e)];exact e) (λb q' e=>by rw[uS (ne e)];exact e)
  (λm hm=>by
   obtain⟨o,es,ep,e,r⟩:=hm
   exact⟨o,es,ep,hx _ o (nP I.free) e,r⟩) (λb u e=>?_) I.bare
 ·exact this
 ·by_cases hb:b=c
  ·subst hb;rw[u3] at e;cases e;exact⟨ec,oc,ec⟩
  ·rw[uS hb] at e;by_cases hbP:b=P
   ·subst hbP;rw[hP] at e;cases e;refine⟨_,pc,by rw[VX];exact GI _ ok,λaC cv z=>?_⟩;rw[VX] at z
    rcases Dp _ ok z with z | z
    ·obtain⟨c',sr,fq,t',e1,e2,e3⟩:=old (q':=q) z;exact⟨c',sr,fq,t',e1,by rw[uS (ne e2)];exact e2,e3⟩
    ·exact⟨c,oc,vs,t,z,u3,hd,hv⟩
   ·refine(I.hok b u e).stay (λd v hd q=>hx d v ?_ q) (λd q=>by rw[uS (ne q)];exact q) (λd xs q=>by rw[uS (ne q)];exact q) λd o u q=>by rw[uS (ne q)];exact q
    rcases hd with z | z
    ·rw[z];exact hbP
    ·intro y;rw[y,hP] at z;cases z
end
noncomputable abbrev lamObj(params:Arguments)(body:L_)(scope:Te)(cl:List (Str×g_))(pm cv bH:b_):Obj:=
 { cls:=.type "function", data:=.func (kla_fn "<lambda>" "letter_left.<locals>.<lambda>" params body scope cl pm cv bH) }
section
variable{H:Hp}{s:c_}{body:L_}{dR:Pos}
def Code1(H:Hp)(cv:b_):Prop:=∃c oc P vs t,cv=.ref c/\H c=some (.frz oc (.own P))/\oc.data=.fields vs/\vs[1]?=some (.str "letter_left.<locals>.<lambda>" t)
theorem Code1.rec'(h:Code1 H cv)(ok:HOk X.prog X.w H s.heap):s.heap.CodeRec cv "letter_left.<locals>.<lambda>":=by
 obtain⟨c,oc,P,vs,t,rfl,e,d,v⟩:=h;obtain⟨ho,_⟩:=(show ObjOk X.prog X.w H s.heap c (.frz oc (.own P)) from ok c _ e);exact⟨c,oc,vs,t,rfl,ho,d,v⟩
theorem MX{c P:g_}(I:Inv X aa U H s)(ht:Td X.K "letter_left"=some (c,P))(c7:X.env.code=.ref c)(hq:X.env.qual = "letter_left.<locals>.")(fz:W7 params X.env=([],[]))(cX:Ve scope X.env=pure fy){Q:b_->c_->Prop}(k:∀f H' s' pm cv bH,Inv X aa U H' s'->(H'=H\/∃c' oc,H c'=none/\H'=upd H c' (.frz oc (.own P)))->Code1 H' cv->s.heap.objs.size<=f->H' f=none->s'.heap.get? f=some (lamObj params body scope fy pm cv bH)->Q (.ref f) s'):
  m_ (l_ X.prog X.w) X.A (eval (.Lambda params body scope dR) X.env) Q X.xe s:=by
 have q2:X.env.qual ++ "<lambda>" = "letter_left.<locals>.<lambda>":=by rw[hq];decide
 refine PySem.W.kla_eval fz ?_;rw[q2];have hP:H P=some (.tbl "letter_left.<locals>.<lambda>"):=I.base.tbls P _ (I.ok.tb c P ht);obtain⟨ps,fZ,ok,en⟩:=(show ObjOk X.prog X.w H s.heap P (.tbl "letter_left.<locals>.<lambda>") from I.hok P _ hP);have hg:=I.ok.mod.glob.keeps I.bk;have C:=(I.ok.mod.cod c P ht).keeps I.bk
 have su:Q6≠P:=λz=>by
  obtain⟨o,es,ep,e,hd,_⟩:=hg;rw[z,fZ] at e;cases e;cases hd
 have hb:s.heap.BuiltinsAt X.mg P:=by
  obtain⟨bm,ob,b1,b2,b3,b4,b5,b6⟩:=I.ok.mod.bm;refine⟨bm,ob,b1,b2,λz=>?_,λz=>?_,I.bk _ _ b3,b4,b5,b6⟩
  ·obtain⟨o,es,ep,e,hd,_⟩:=hg;rw[←z,I.bk _ _ b3] at e;cases e;rw[b6] at hd;cases hd
  ·have:=I.bk _ _ b3;rw[z,fZ] at this;cases this;cases b4
 cases hf:Ul dR ps.toList with
 | some cv =>
  refine PySem.W.kla_makeFunctionHit (mg:=X.mg) cX I.ok.glob hg c7 C fZ ok hf hb λbH h' tk keep sz=>?_
  have mT:∀b o,s.heap.get? b=some o->(h'.push (lamObj params body scope fy ((X.mg "__name__").getD .none) cv bH)).get? b=some o:=λb o e=>e_ _ (keep b o e)
  have I2:Inv X aa U H { s with heap:=h'.push (lamObj params body scope fy ((X.mg "__name__").getD .none) cv bH),toks:=tk }:=I.kept (t':=tk) mT;refine k _ H _ _ cv bH I2 (.inl rfl) ?_ sz (I.hok.fresh sz) (r_ _ rfl);obtain⟨c',oc,vs,t,e1,e2,e3,e4⟩:=en _ _ hf;exact⟨c',oc,P,vs,t,e1,e2,e3,e4⟩
 | none =>
  refine PySem.W.kla_makeFunction (mg:=X.mg) cX I.ok.glob hg c7 C fZ ok hf su hb λc' bH h' tk hx jS bz pd sv=>?_
  obtain⟨c2,oc,vs,t,e1,e2,e3,e4⟩:=pd;cases e1;have I1:=Nf (t':=tk) I hP fZ ok hx jS e2 e3 e4 sv;have I2:Inv X aa U _ { s with heap:=h'.push (lamObj params body scope fy ((X.mg "__name__").getD .none) (.ref c') bH),toks:=tk }:=I1.kept (t':=tk) λb o e=>e_ _ e
  refine k _ _ _ _ (.ref c') bH I2 (.inr ⟨c',oc,I.hok.fresh jS,rfl⟩) ⟨c',oc,P,vs,t,rfl,u3,e3,e4⟩ (z_ jS (TR bz)) ?_ (r_ _ rfl);exact I1.hok.fresh (x_ _)
noncomputable abbrev envL(scope:Te)(L f:g_)(cv:b_)(cl:List (Str×g_)):Env:=PySem.W.envX "letter_left.<locals>.<lambda>" scope L f cv cl
noncomputable abbrev cxL(X:Cx)(A:Rh)(scope:Te)(N:List Str)(s:c_)(H:Hp)(f:g_)(cv:b_)(cl:List (Str×g_)):Cx:=
 { X with A:=A.deeper (envL scope s.heap.objs.size f cv cl),N:=N,s₀:=s,H₀:=H,env:=envL scope s.heap.objs.size f cv cl,outer:=X.stack,stack:=envL scope s.heap.objs.size f cv cl::X.stack,ex:=[],fn:=λ_=>false,calm:=true,pn:=[],xe:=λ_ _=>False }
theorem Jd{c0:g_}{g:Str}{bH u uc:b_}{v:V}{t:TE}{Q:VK}{R:b_->c_->Prop}{E:b_->c_->Prop}(I:Inv X aa U H s)(hA:Env0 X.prog X.w X.K X.mg X.base A X.stack s H)(hd:A.handled=none)(mU:A.depth < Vw)(hf:s.heap.get? f=some (lamObj params body scope [(y,c0)] pm cv bH))(aT:Code1 H cv)(sw:∃z,X.env.cells.lookup z=some c0)(cA:s.heap.IsCell c0 (some uc))(rv:RelV v u)(rc:RelV vc uc)(uA:g≠y)(fQ:∀u,RL (kla_fn "<lambda>" "letter_left.<locals>.<lambda>" params body scope [(y,c0)] pm cv bH) ⟨[u],[]⟩=pure [(g,u)])(hk:scope.kind=.function)(sx:scope.isCoroutine=false)(pe:scope.isGenerator=false)(pf:scope.names.lookup g=some .local)(sy:scope.names.lookup y=some .free)(jG:∀x∈scope.names,x.2≠.cell)(eB:∀x,scope.names.lookup x=some .free->x=y)(hb:PE (cxL X A scope [g,y] s H f cv [(y,c0)]) body t)(ht:t [some v,some vc] H Q)(k:∀u' s',CE X.stack X.prog X.w H s Q u' s'->R u' s'):m_ (l_ X.prog X.w) A (call (.ref f) [u]) R E s:=by
 refine S3 (PySem.W.kla_callFunE mU hf rfl sx pe rfl (aT.rec' I.hok) ?_);rw[fQ];refine d_ (VC jG (λx hx=>by rw[q_.mp hx];exact pf) (λh₁ fN jJ=>⟨(I.nolimit).fresh _ jJ,?_⟩) hk);have old:∀b o,s.heap.get? b=some o->h₁.get? b=some o:=λb o e=>jJ.extBut b o (H_ (w_ e)) (e_ _ e)
 have ik:∀x,(envL scope s.heap.objs.size f cv [(y,c0)]).kindOf x=scope.names.lookup x:=λx=>rfl
 have look:∀x d,(envL scope s.heap.objs.size f cv [(y,c0)]).cells.lookup x=some d->x=y/\d=c0:=λx d e=>by
  have e:Sj x [(y,c0)]=some d:=e;rw[U0] at e;by_cases z:x=y
  ·subst z;simp at e;exact⟨rfl,e.symm⟩
  ·have:(x == y)=false:=by simpa using z
   rw[this] at e;cases e
 have own:(envL scope s.heap.objs.size f cv [(y,c0)]).cells.lookup y=some c0:=by
  show Sj y [(y,c0)]=some c0;simp
 obtain⟨z0,sA⟩:=sw
 have ok:(cxL X A scope [g,y] s H f cv [(y,c0)]).Ok:=by
  refine⟨hA.mod,hk,rfl,rfl,x_ _,λa b d e1 e2=>?_,λx hx=>?_,λx d z=>(nomatch z),λ_=>hd,Rh.frames_deeper hA.frames,.inr ⟨rfl,rfl⟩,λb z=>(nomatch z),hA.bs,hA.bsz,λb _ _ z=>(nomatch z),λb z=>(nomatch z),hA.funs,hA.frf,hA.tb⟩
  ·rw[(look a d e1).1,(look b d e2).1]
  ·rcases hx with hx | hx
   ·exact absurd rfl (jG _ (PySem.mem_of_lookup hx))
   ·rw[eB x hx];exact⟨c0,own⟩
 have I':Inv (cxL X A scope [g,y] s H f cv [(y,c0)]) [] [some v,some vc] H { s with heap:=h₁,toks:=s.toks+1 }:=by
  refine⟨ok,rfl,hA.bare,Un.kept old,⟨_,fN,λi x w e1 e2 e3=>?_⟩,λx d e=>?_,I.hok.fresh (x_ _),λx d e=>?_,λp hp=>(nomatch hp),I.hok.kept old,rfl⟩
  ·match i,e1,e2 with
   | 0,e1,e2 =>
    cases e1;cases e2;exact⟨u,rv,.inl ⟨pf,by simp⟩⟩
   | 1,e1,e2 =>
    cases e1;cases e2;obtain⟨o,ho,bS⟩:=cA;exact⟨uc,rc,.inr ⟨.inr sy,c0,own,o,old _ _ ho,bS⟩⟩
  ·rw[(look x d e).2];obtain⟨o,ho,bS⟩:=cA;exact⟨_,o,old _ _ ho,bS⟩
  ·rw[(look x d e).2];exact I.freeC z0 c0 sA
 refine PySem.W.kla_codeExpr (Q9 (hb [] _ _ H Q I' ht) (λv' s' h=>?_) λ_ _ x=>x.elim);obtain⟨v2,H2,I2,r2,q2⟩:=h;refine k v' s' ⟨v2,H2,I2.os,I2.bare,?_,I2.hok,r2,q2⟩;exact I2.base
end
end L2
namespace DL
open PySem PySem.W PySem.Spec PyProof.Rows L2
def stpL(t:TE)(vc:V):V->Hp->(Int->Hp->Prop)->Prop:=λx H R=>t [some x,some vc] H λv H'=>∃k,v=.int k/\R k H'
section
variable{H:Hp}{s:c_}{body:L_}{t:TE}{g:Str}{c0:g_}{bH:b_}{kb jc:Nat}
structure LamFix(X:Cx)(params:Arguments)(body:L_)(scope:Te)(g y:Str)(c0:g_)(t:TE)(kb jc:Nat):Prop where
 jn:X.N[jc]?=some y
 vis:Vis X.env.scope y
 cel:X.env.kindOf y≠some .local
 cl:X.env.cells.lookup y=some c0
 ne:g≠y
 bind:∀pm cv bH u,RL (kla_fn "<lambda>" "letter_left.<locals>.<lambda>" params body scope [(y,c0)] pm cv bH) ⟨[u],[]⟩=pure [(g,u)]
 kind:scope.kind=.function
 co:scope.isCoroutine=false
 gen:scope.isGenerator=false
 lg:scope.names.lookup g=some .local
 ly:scope.names.lookup y=some .free
 no:∀x∈scope.names,x.2≠.cell
 fre:∀x,scope.names.lookup x=some .free->x=y
 body:∀(A:Rh) (s:c_) (H:Hp) (f:g_) (cv:b_),Room kb (A.deeper (envL scope s.heap.objs.size f cv [(y,c0)]))->PE (cxL X A scope [g,y] s H f cv [(y,c0)]) body t
end
section
variable{H:Hp}{s:c_}{body:L_}{t:TE}{g:Str}{c0:g_}{bH:b_}{kb jc:Nat}
theorem nofr(I:Inv X aa U H s){b:g_}(h:s.heap.objs.size<=b):b∉frs X.stack:=λz=>by
 rcases A_.mp (I.stkSub b z) with e | e
 ·exact absurd I.lt (by rw[←e];exact Xe.mpr h)
 ·exact I.nofs h e
variable{B:BB}{p dR jT fA cp:Pos}{jx:Option Str}
end
section
variable{body:L_}{t:TE}{g:Str}{c0:g_}{kb jc:Nat}{B:BB}{p dR jT fA cp:Pos}{jx:Nat}
noncomputable def B0:BB:=λ_=>none
noncomputable def keysL(el:M D)(dc:D):List D->Option (List Int)
 | []=>some []
 | d::ds=>match el [some (.val d),some (.val dc)] with
  | some (.int k,_)=>match keysL el dc ds with
   | some kz=>some (k::kz)
   | none=>none
  | _=>none
noncomputable def valAt(j:Nat):M D:=λΓ=>match Γ[j]? with
 | some (some (.val d))=>some (d,Γ)
 | _=>none
theorem L7{K:PySem.W.Frag}{H:Hp}{v:V}(iH:Same I H)(hd:Is K I d v)(hc:Is K I dc vc):Rep K B0 H I H [some v,some vc] [some (.val d),some (.val dc)] where
 iH:=iH
 gH:=Same.refl _
 len:=rfl
 slot:=λi r e=>by
  match i,e with
  | 0,e=>cases e;exact⟨v,rfl,hd⟩
  | 1,e=>cases e;exact⟨vc,rfl,hc⟩
 dist:=λi j r r' w e e' m=>by
  match i,e with
  | 0,e=>cases e;cases m
  | 1,e=>cases e;cases m
 bor:=λi ds e=>by
  match i,e with
  | 0,e=>cases e
  | 1,e=>cases e
end
end DL
namespace DL
open PySem PySem.Spec PyProof.Rows L2
section
variable{P:u_}{w:C_}{K:PySem.W.Frag}
theorem O6{c:g_}(hn:PySem.W.nsIn K Q6 "letter_left"=some (some (.ref f)))(ht:Td K "letter_left"=some (c,P'))(lk:K.lookup f=some ⟨oc,od,.func fd,cM⟩):fd.code=.ref c:=by
 unfold Td at ht;rw[hn] at ht;dsimp only at ht;rw[lk] at ht;dsimp only at ht;split at ht
 ·rename_i e;split at ht
  ·split at ht
   ·cases ht;exact e
   ·cases ht
  ·cases ht
 ·cases ht
theorem LR{x:Str}{st:Rm}{c:g_}{k:Nat}(F:Fun K x qual st f fd)(S:FnScope N ps (defScope st))(hn:PySem.W.nsIn K Q6 "letter_left"=some (some (.ref f)))(ht:Td K "letter_left"=some (c,P'))(len:∀vs H Q E,sp vs H Q E->vs.length=ps.length)(dG:∀(ak:b_),ak=.ref c->∀(A:Rh) (outer:List Env) (s:c_) (H:Hp) (vs:List V) (Q:VK) (E:XK),Room k (A.deeper (SR qual (defScope st) s.heap.objs.size f ak))->sp vs H Q E →
   ∃t,PSs (cxOf CX0 P w K mg base N qual (defScope st) f ak A outer s H E).nox (defBody st) t/\t { nx:=λ_ H'=>Q .non H',rt:=Q } (start N vs) H):FnOk P w K mg base CX0 (k+1) f fd ps sp:=by
 obtain⟨oc,od,kV,bT,pm,an,ak,ct,cM,rfl,lk,aT⟩:=F.ex;refine A4 lk aT S len λA outer s H vs Q E hr dX=>?_
 obtain⟨t,h,q⟩:=dG ak (O6 hn ht lk) A outer s H vs Q E hr dX;exact⟨t,h.nox,q⟩
theorem OQ{x:Str}{c:g_}{st:Rm}{k:Nat}(F:Fun K x qual st f fd)(S:FnScope N ps (defScope st))(hn:PySem.W.nsIn K Q6 "letter_left"=some (some (.ref f)))(ht:Td K "letter_left"=some (c,P'))(g:M Fl)(hb:∀(ak:b_),ak=.ref c->∀(A:Rh) (outer:List Env) (s:c_) (H:Hp) (E:XK) (B:BB),Room k (A.deeper (SR qual (defScope st) s.heap.objs.size f ak)) →
   SDs (cxOf CX0 P w K mg base N qual (defScope st) f ak A outer s H E).nox B (defBody st) g):FnOk P w K mg base CX0 (k+1) f fd ps (spD K (fnD N.length ps.length g)):=by
 refine LR F S hn ht (λvs H Q E h=>?_) (λak aT A outer s H vs Q E hr h=>?_)
 ·obtain⟨_,_,rs,_,_,h1,_,h2,_⟩:=h;unfold fnD at h2;by_cases hc:rs.length=ps.length
  ·rw[←hc];simpa using h1.len
  ·rw[if_neg hc] at h2;cases h2
 ·obtain⟨G,I,rs,r,aZ,h2,h3,h4,h5⟩:=h;have hl:vs.length=rs.length:=by simpa using h2.len
  refine⟨_,hb ak aT A outer s H E (λi=>(L2.start N vs)[i]?) hr,?_⟩;unfold fnD at h4
  have hc:rs.length=ps.length:=by
   by_cases hc:rs.length=ps.length
   ·exact hc
   ·rw[if_neg hc] at h4;cases h4
  rw[if_pos hc] at h4;unfold fnD1 at h4;cases e1:g (rs.map some++QY (N.length - rs.length) none) with
  | none=>rw[e1] at h4;cases h4
  | some q =>
   obtain⟨fl,ae⟩:=q;rw[e1] at h4;dsimp only at h4;cases e2:flR fl with
   | none=>rw[e2] at h4;cases h4
   | some rr =>
    rw[e2] at h4;dsimp only at h4;cases e3:fin rs ae with
    | none=>rw[e3] at h4;cases h4
    | some l =>
     rw[e3] at h4;obtain⟨rfl,rfl⟩:rr=r/\l=aZ:=by cases h4;exact⟨rfl,rfl⟩
     have eE:∀{i:Nat}{v:V},vs[i]?=some v->(L2.start N vs)[i]?=some (some v):=λ{i v} e=>by
      unfold L2.start;rw[RH (by rw[p_];exact(n_.mp e).1),y_,e];rfl
     have fL:∀{i:Nat}{v:V},(L2.start N vs)[i]?=some (some v)->vs[i]?=some v:=λ{i v} e=>v8 e
     have iB:Rep K (λi=>(L2.start N vs)[i]?) G I H (L2.start N vs) (rs.map some++QY (N.length - rs.length) none):={
      iH:=h2.iH,gH:=h2.gH
      len:=by unfold L2.start;rw[QZ,QZ,p_,p_,N_,N_,hl]
      slot:=λi q e=>by
       have e':=v8 e;obtain⟨v,e4,e5⟩:=h2.slot i q (by rw[y_,e'];rfl);obtain⟨v',e6,e7⟩:=getMap e4;cases e7;exact⟨v,eE e6,e5⟩
      dist:=λi j q q' v e e' m m' s1 s2=>h2.dist i j q q' v (by rw[y_,v8 e];rfl) (by rw[y_,v8 e'];rfl) m m' (by rw[y_,fL s1];rfl) (by rw[y_,fL s2];rfl)
      bor:=λi ds e=>rfl }
     obtain⟨f1,f2⟩:=yT e3
     -- behind the body
     have back:∀{ai:L2.St}{H' I':Hp},Rep K (λi=>(L2.start N vs)[i]?) G I' H' ai ae->Grow G I I'->Rep K (vB vs) G I' H' (vs.map some) (l.map some):=λ{ai H' I'} r' g'=>{
      iH:=r'.iH,gH:=r'.gH
      len:=by rw[p_,p_,f1,hl]
      slot:=λi q e=>by
       obtain⟨q',e4,e5⟩:=getMap e;cases e5
       rcases f2 i q e4 with⟨d,rfl,e6⟩ | ⟨ds,rfl,e6⟩
       ·obtain⟨v,e7,e8⟩:=h2.slot i (.val d) (by rw[y_,e6];rfl);exact⟨v,e7,Is.mono g'.up e8⟩
       ·obtain⟨v,e7,e8⟩:=r'.slot i _ e6;have e9:=r'.bor i ds e6;rw[e7] at e9;exact⟨v,by rw[y_,fL e9.symm];rfl,e8⟩
      dist:=λi j q q' v e e' m m' s1 s2=>by
       obtain⟨_,e4,e5⟩:=getMap e;cases e5;obtain⟨_,e6,e7⟩:=getMap e';cases e7
       rcases f2 i q e4 with⟨d,rfl,_⟩ | ⟨ds,rfl,e8⟩
       ·cases m
       rcases f2 j q' e6 with⟨d,rfl,_⟩ | ⟨eF,rfl,e9⟩
       ·cases m'
       obtain⟨v1,a1,_⟩:=getMap s1;obtain⟨v2,a2,a3⟩:=getMap s2;have b1:=r'.bor i ds e8;have b2:=r'.bor j eF e9;rename_i b3;cases b3;cases a3;rw[eE a1] at b1;rw[eE a2] at b2;exact r'.dist i j _ _ v e8 e9 rfl rfl b1 b2
      bor:=λi ds e=>rfl }
     have ap:∀{ai:L2.St}{H' I':Hp}{p:g_},Rep K (λi=>(L2.start N vs)[i]?) G I' H' ai ae->Apart ai ae p->Apart (vs.map some) (l.map some) p:=λ{ai H' I' p} r' a i q e m z=>by
      obtain⟨_,e4,e5⟩:=getMap e;cases e5
      rcases f2 i q e4 with⟨d,rfl,_⟩ | ⟨ds,rfl,e8⟩
      ·cases m
      obtain⟨v1,a1,a2⟩:=getMap z;cases a2;exact a i _ e8 rfl ((r'.bor i ds e8).trans (eE a1))
     refine⟨G,I,_,fl,ae,iB,e1,λai H' I' r' g'=>?_⟩;cases fl with
     | nx=>cases e2;exact h5 _ H' I' (back r' g') g' (show Is K I' D.non V.non from Is.non)
     | bk=>cases e2
     | ct=>cases e2
     | rt r0 =>
      cases e2;intro v hv;refine h5 v H' I' (back r' g') g' ?_;cases rr with
      | val d=>exact hv
      | bor d=>exact hv
      | fro d=>exact hv
      | dic d =>
       obtain⟨p,xs,b1,b2,b3,b4,b5,b6⟩:=hv;exact⟨p,xs,b1,b2,b3,b4,ap r' b5,b6⟩
      | own d =>
       obtain⟨p,xs,b1,b2,b3,b4,b5,b6⟩:=hv;exact⟨p,xs,b1,b2,b3,b4,ap r' b5,b6⟩
end
section
variable{body:L_}{g:Str}{c0:g_}{kb jc:Nat}
theorem Mj(jn:X.N[jc]?=some y)(cl:X.env.cells.lookup y=some c0)(hb:∀(A:Rh) (s:c_) (H:Hp) (f:g_) (cv:b_),Room kb (A.deeper (envL scope s.heap.objs.size f cv [(y,c0)]))->ED (cxL X A scope [g,y] s H f cv [(y,c0)]) B0 body el)(hk:X.env.scope.names.lookup y=some .cell:=by rfl)(ne:g≠y:=by decide)(oQ:∀pm cv bH u,RL (kla_fn "<lambda>" "letter_left.<locals>.<lambda>" params body scope [(y,c0)] pm cv bH) ⟨[u],[]⟩=pure [(g,u)]:=by intros;rfl)(k1:scope.kind=.function:=by rfl)(k2:scope.isCoroutine=false:=by rfl)(k3:scope.isGenerator=false:=by rfl)(lg:scope.names.lookup g=some .local:=by rfl)(ly:scope.names.lookup y=some .free:=by rfl)(no:∀x∈scope.names,x.2≠.cell:=by decide +kernel)(fre:∀x∈scope.names,x.2=.free->x.1=y:=by decide +kernel):LamFix X params body scope g y c0 (tD X.K B0 el) kb jc:=
 ⟨jn,.inr (.inl hk),(λz=>by
  have z:X.env.scope.names.lookup y=some .local:=z;rw[hk] at z
  cases z),cl,ne,oQ,k1,k2,k3,lg,ly,no,λx h=>fre _ (PySem.mem_of_lookup h) rfl,hb⟩
end
end DL
namespace DL
open PySem PySem.W PySem.Spec PyProof.Rows L2
def keyS(jU:V->Hp->(Int->Hp->Prop)->Prop)(P:Hp->Prop):List V->Hp->List Int->(List Int->Hp->Prop)->Prop
 | [],H,af,Q=>P H/\Q af H
 | x::xs,H,af,Q=>P H/\jU x H λk H'=>keyS jU P xs H' (af++[k]) Q
theorem keyS.now{jU:V->Hp->(Int->Hp->Prop)->Prop}{P:Hp->Prop}{H:Hp}{af:List Int}{Q:List Int->Hp->Prop}(h:keyS jU P xs H af Q):P H:=by
 cases xs<;>exact h.1
noncomputable def bestK{α:Type}:α->Int->List Int->List α->α
 | b,m,k::kz,x::xs=>if k < m then bestK x k kz xs else bestK b m kz xs
 | b,_,_,_=>b
noncomputable def minL{α:Type}(d:α)(kz:List Int)(xs:List α):α:=match kz,xs with
 | k::kz,x::xs=>bestK x k kz xs
 | _,_=>d
theorem LS(a v d:b_):Wc "min" ⟨[a],[(Sc "key", v),(Sc "default", d)]⟩:=by unfold Wc;kernel_rfl
def HeldK(xs:List V)(af:List Int)(j:Nat)(cells:Array b_):Prop:=(j=0/\cells=#[]/\af=[]) ∨
 ∃b m vb tb,0 < j/\cells=#[vb,.int m tb]/\RelV b vb/\∀kz,minL .non (af++kz) xs=bestK b m kz (xs.drop j)
section
variable{body:L_}{t:TE}{g:Str}{c0:g_}{bH:b_}{kb jc:Nat}
theorem Od(hr:Room (kb+3) X.A)(L:LamFix X params body scope g y c0 t kb jc)(hv:U[jc]?=some (some vc)){it:g_}(iY:S≠it)(la:l≠it)(nf:f≠S/\f≠it)(fi:∀H',H' it=none->FpOk X aa H' it)(fs:∀H',H' S=none->FpOk X aa H' S)(mM:∀b,b=it\/b=S\/b=f->b∉frs X.stack){Q:VK}:∀(left:Nat) (s:c_) (H:Hp) (j:Nat) (cells:Array b_) (c:Nat) (af:List Int),j+left=xs.length →
  Inv X aa U H s->s.heap.get? f=some (lamObj params body scope [(y,c0)] pm cv bH)->H f=none->Code1 H cv->s.heap.IsListIter it l j->H it=none->s.heap.get? S=some (S8 "list" cells c)->H S=none->HeldK xs af j cells->af.length=j →
  keyS (stpL t vc) (λH=>SqL X.K H l xs) (xs.drop j) H af (λkz H'=>Q (minL .non kz xs) H') →
  RS (l_ X.prog X.w) X.A (.builtin "min.loop" ⟨[.ref it,.ref f,.ref S],[(Sc "default", .none)]⟩) (Xl (EP X aa U Q) X.xe) s:=by
 have aM:(toString "min"++toString ".loop":String) = "min.loop":=by decide
 intro left
 induction left with
 | zero =>
  intro s H j cells c af len I hf nF aT mV nI slot nS bu al kk;have hj:j=xs.length:=by omega
  rw[SF (by omega)] at kk;obtain⟨hq,q⟩:=kk;obtain⟨ac,rv,tl,hz⟩:=I.list hq;have lv:=rv.length;have hh:X.A.in1.handled=none:=hr.in1.hd;have W:=S7 (prog:=X.prog) (w:=X.w) (A:=X.A.in1) hh it l la ac.toArray;refine Q2 PySem.F.entry_min_loop ?_;rw[Ru SL _];refine a_ (m:=Tb (.ref S)) (Q5 slot rfl (a_ (m:=tryCatch (Sm (.ref it)) _) (Ro (W.done s _ _ ⟨by rw[o_,←lv,←hj];exact mV,tl.isList⟩ λg tk kp=>?_))));have I1:Inv X aa U H { s with heap:=g,toks:=tk }:=xL I (ch:=[it]) (λb hb=>by rw[q_.mp hb];exact fi _ nI) λb u hb e=>kp b u hb e
  have aK:=kp S _ (by simpa using iY) slot
  rcases bu with⟨h0,rfl,rfl⟩ | ⟨b,m,vb,tb,h0,rfl,rb,hb⟩
  ·have e0:xs=[]:=RG.mp (by omega);refine a_ (Uw (d_ ?_));rw[e0] at q;exact⟨.non,H,I1,rfl,q⟩
  ·refine a_ (m:=Tc S λ_=>#[]) (Q_ aK rfl (a_ (Rk (d_ ?_))));have e:=hb [];rw[Rx,SF (by omega)] at e;have e:minL .non af xs=b:=e;rw[e] at q;refine⟨b,H,xL (t':=tk) I1 (ch:=[S]) (λb hb=>by rw[q_.mp hb];exact fs _ nS) λb u hb e=>(B_ _ _ (λz=>hb (by rw[z];exact q_.mpr rfl))).trans e,rb,q⟩
 | succ left ih =>
  intro s H j cells c af len I hf nF aT mV nI slot nS bu al kk;have hj:j < xs.length:=by omega
  have hq:=kk.now;obtain⟨ac,rv,tl,hz⟩:=I.list hq;have lv:=rv.length;have hh:X.A.in1.handled=none:=hr.in1.hd;have W:=S7 (prog:=X.prog) (w:=X.w) (A:=X.A.in1) hh it l la ac.toArray;refine Q2 PySem.F.entry_min_loop ?_;rw[Ru SL _];refine a_ (m:=Tb (.ref S)) (Q5 slot rfl (a_ (m:=tryCatch (Sm (.ref it)) _) (Ro (W.item j s _ _ (by rw[o_,←lv];exact hj) ⟨mV,tl.isList⟩ λv g1 tk eL dz kp=>?_))));have I1:Inv X aa U H { s with heap:=g1,toks:=tk }:=xL I (ch:=[it]) (λb hb=>by rw[q_.mp hb];exact fi _ nI) λb u hb e=>kp b u hb e
  have aK:=kp S _ (by simpa using iY) slot;have jV:=kp f _ (by simpa using nf.2) hf;rw[Q0 hj] at kk;obtain⟨u',eG,ru⟩:=rv.get (h_ hj)
  have ev:u'=v:=by
   have:ac[j]?=some v:=by simpa using eL
   rw[eG] at this;cases this;rfl
  subst ev;obtain⟨m0,_,lo⟩:=I1.loc;obtain⟨uc,rc,lk⟩:=lo jc y vc L.jn hv L.vis
  have cA:g1.IsCell c0 (some uc):=by
   rcases lk with⟨z,_⟩ | ⟨_,c,z,q⟩
   ·exact absurd z L.cel
   ·rw[L.cl] at z;cases z;exact q
  have r2:Room (kb+1) X.A.in1:=(hr.mono (by omega:kb+2<=kb+3)).in1;obtain⟨oI,mR,ij,pg⟩:=id dz.1;refine a_ (m:=tryCatch (SE [u'] (call (.ref f) [u'])) _) (Ro (F_ (Jd I1 I1.env0.in1 r2.hd (by have:=r2.dp;omega) jV aT ⟨y,L.cl⟩ cA ru rc L.ne (λu=>L.bind pm cv bH u) L.kind L.co L.gen L.lg L.ly L.no L.fre (L.body _ _ H f cv (r2.deeper _)) kk.2 λu2 s2 ce=>?_)));obtain⟨v2,H2,os,bare,un,hok,rr,k,rfl,ph⟩:=ce;obtain⟨fB,gg,dd,tt,gR⟩:=s2;obtain rfl:gR=s.os:=os;obtain⟨fY,rfl⟩:=rr;have I2:=I1.call (h':=fB) (g':=gg) (d':=dd) (t':=tt) (ch:=[]) un hok bare (λb z=>absurd z (by simp));have fA:∀b o,(b=it\/b=S\/b=f)->g1.get? b=some o->H b=none->fB.get? b=some o/\H2 b=none:=λb o hb e n=>⟨un.keep b o e n (mM b hb) (by simp),un.free b o e n (by simp)⟩
  have kI:=fA it _ (.inl rfl) mR nI;have kS:=fA S _ (.inr (.inl rfl)) aK nS;have kF:=fA f _ (.inr (.inr rfl)) jV nF
  have lf:Code1 H2 cv:=by
   obtain⟨c,oc,P,vs,t,q1,q2,q3⟩:=aT;exact⟨c,oc,P,vs,t,q1,un.frzs _ _ _ q2,q3⟩
  have next:∀(aD:Array b_),HeldK xs (af++[k]) (j+1) aD->RS (l_ X.prog X.w) X.A (.builtin "min.loop" ⟨[.ref it,.ref f,.ref S],[(Sc "default", .none)]⟩) (Xl (EP X aa U Q) X.xe) { heap:=fB.update S (TC λ_=>aD),gens:=gg,drawn:=dd,toks:=tt,os:=s.os }:=λaD hc=>by
   have nz:∀{b:g_}{o:Obj},b≠S->fB.get? b=some o->(fB.update S (TC λ_=>aD)).get? b=some o:=λne e=>(B_ _ _ (QW ne)).trans e
   obtain⟨c2,dH⟩:∃c2,(fB.update S (TC λ_=>aD)).get? S=some (S8 "list" aD c2):=⟨_,Vo kS.1 _⟩;have I3:Inv X aa U H2 { heap:=fB.update S (TC λ_=>aD),gens:=gg,drawn:=dd,toks:=tt,os:=s.os }:=xL (s:={ heap:=fB,gens:=gg,drawn:=dd,toks:=tt,os:=s.os }) (t':=tt) I2 (ch:=[S]) (λb hb=>by rw[q_.mp hb];exact fs _ kS.2) λb u hb e=>nz (by simpa using hb) e
   exact ih _ H2 (j+1) aD c2 (af++[k]) (by omega) I3 (nz nf.1 kF.1) kF.2 lf ⟨oI,nz (QW iY) kI.1,ij,pg⟩ kI.2 dH kS.2 hc (by simp[al]) ph
  rcases bu with⟨h0,rfl,rfl⟩ | ⟨b,m,vb,tb,h0,rfl,rb,hb⟩
  ·subst h0;refine a_ (m:=Tc S λ_=>#[u',.int k fY]) (Q_ kS.1 rfl ?_);rw[aM];refine d_ ⟨J_ SL _,next _ (.inr ⟨xs[0],k,u',fY,by omega,rfl,ru,λkz=>?_⟩)⟩;cases xs with
   | nil=>simp at hj
   | cons x xs=>rfl
  ·have st:∀kz,minL .non (af++[k]++kz) xs=if k < m then bestK xs[j] k kz (xs.drop (j+1)) else bestK b m kz (xs.drop (j+1)):=λkz=>by
    rw[Vf,List.singleton_append,hb,Q0 hj,bestK]
   refine a_ (m:=tryCatch (SE [u',.int k fY] (UF .Lt (.int k fY) (.int m tb) >>= _)) _) (Ro (F_ (a_ (lt_int (a_ (F_ (Ra (a_ (Rk (d_ ?_))))))))));by_cases lt:k < m
   ·rw[if_pos (by simpa using lt)];refine a_ (Q_ kS.1 rfl (a_ (Rk ?_)));rw[aM];refine d_ ⟨J_ SL _,next _ (.inr ⟨xs[j],k,u',fY,by omega,rfl,ru,λkz=>?_⟩)⟩;rw[st,if_pos lt]
   ·rw[if_neg (by simpa using lt)];refine a_ (Rk ?_);rw[aM];refine d_ ⟨J_ SL _,ih _ H2 (j+1) _ c (af++[k]) (by omega) I2 kF.1 kF.2 lf ⟨oI,kI.1,ij,pg⟩ kI.2 kS.1 kS.2 (.inr ⟨b,m,vb,tb,by omega,rfl,rb,λkz=>?_⟩) (by simp[al]) ph⟩;rw[st,if_neg lt]
theorem FA(hr:Room (kb+3) X.A)(L:LamFix X params body scope g y c0 t kb jc){H:Hp}{s:c_}(hv:U[jc]?=some (some vc))(I:Inv X aa U H s)(hf:s.heap.get? f=some (lamObj params body scope [(y,c0)] pm cv bH))(nF:H f=none)(ff:f∉frs X.stack)(aT:Code1 H cv)(hq:SqL X.K H l xs){Q:VK}(kk:keyS (stpL t vc) (λH=>SqL X.K H l xs) xs H [] λkz H'=>Q (minL .non kz xs) H'):
  m_ (l_ X.prog X.w) X.A (call (.builtin "min") [.ref l] [(Sc "key", .ref f),(Sc "default", .none)]) (EP X aa U Q) X.xe s:=by
 obtain⟨ac,rv,tl,hz⟩:=I.list hq;have L1:=tl.isList;have low:l < s.heap.objs.size:=by obtain⟨_,e,_⟩:=L1;exact w_ e
 refine Ci PySem.F.kind_min PySem.F.plain_min PySem.F.entry_min (LS _ _ _) ?_;refine a_ (RN (a:=[some (.ref f),some .none]) rfl (a_ (d_ (a_ (RA L1 (a_ (M_ ?_)))))));have aM:(toString "min"++toString ".loop":String) = "min.loop":=by decide
 rw[aM];have bn:∀o:Obj,(s.heap.push o).objs.size=s.heap.objs.size+1:=λo=>RT ..
 have pi:f < s.heap.objs.size:=w_ hf;have geI:s.heap.objs.size<=s.heap.objs.size:=x_ _;have mW:s.heap.objs.size<=s.heap.objs.size+1:=Vg _;have kp:∀(o1 o2:Obj) b o,s.heap.get? b=some o->((s.heap.push o1).push o2).get? b=some o:=λo1 o2 b o e=>e_ _ (e_ _ e)
 refine d_ ⟨J_ SL _,?_⟩;rw[bn];refine Od hr L hv (l:=l) (it:=s.heap.objs.size) (S:=s.heap.objs.size+1) (xs:=xs) (Uf _) (H_ low) ⟨H_ (Sx pi),H_ pi⟩ (λH' n=>I.fpOk geI n) (λH' n=>I.fpOk mW n) (λb hb=>?_) xs.length _ H 0 #[] 0 [] (U2 _) (I.kept (t':=s.toks) (kp _ _)) (kp _ _ _ _ hf) nF aT ⟨_,e_ _ (r_ _ rfl),rfl,rfl⟩ (I.hok.fresh geI) ?_ (I.hok.fresh mW) (.inl ⟨rfl,rfl,rfl⟩) rfl kk
 ·rcases hb with h | h | h
  ·rw[h];exact nofr I geI
  ·rw[h];exact nofr I mW
  ·rw[h];exact ff
 ·rw[←bn];exact r_ _ rfl
end
section
variable{body:L_}{t:TE}{g:Str}{c0:g_}{kb jc:Nat}{B:BB}{p dR jT fA cp:Pos}{jx:Nat}
noncomputable def tMinL(X:Cx)(t:TE)(jc:Nat)(te:TE):TE:=λU H Q=>te U H λx H1=>∃l xs vc,x=.ref l/\U[jc]?=some (some vc)/\SqL X.K H1 l xs ∧
 keyS (stpL t vc) (λH=>SqL X.K H l xs) xs H1 [] (λkz H'=>Q (minL .non kz xs) H') ∧
 ∀c' o,H1 c'=none->SqL X.K (upd H1 c' o) l xs/\keyS (stpL t vc) (λH=>SqL X.K H l xs) xs (upd H1 c' o) [] (λkz H'=>Q (minL .non kz xs) H')
theorem Mf{c P:g_}(hr:Room (kb+3) X.A)(hg:Gl X "min")(hm:X.mg "min"=none)(L:LamFix X params body scope g y c0 t kb jc)(ht:Td X.K "letter_left"=some (c,P))(c7:X.env.code=.ref c)(hq:X.env.qual = "letter_left.<locals>.")(fz:W7 params X.env=([],[]))(cX:Ve scope X.env=pure [(y,c0)])(he:PE X e te)(hs:P_ pos (f_ [e] X.env)=(false,eval e X.env)::P_ pos (f_ [] X.env):=by rfl)(hp:(P_ pos (f_ [e] X.env)).any (·.1)=false:=by rfl):
  PE X (.Call (.Name "min" p) [e] [⟨some "key", .Lambda params body scope dR,jT⟩,⟨some "default", .Constant .none jx cp,fA⟩] pos) (tMinL X t jc te):=by
 intro aa s U H Q I h;refine Rs (v3 I hg hm WX (callWith_kw ?_ hs hp) (by decide) (by decide));rw[hs];refine S2 (thn (he aa s U H _ I h) λv s1 ⟨x,H1,I1,r1,l,xs,vc,ex,hv,iz,kk,pj⟩=>Th (kws_cons ?_));subst ex;cases r1;refine MX I1 ht c7 hq fz cX λf H' s' pm cv bH I2 hH aT pk nF hf=>kws_cons (Constant_none (kws_nil ?_))
 rcases hH with rfl | ⟨c',oc,n,rfl⟩
 ·exact FA hr L hv I2 hf nF (nofr I1 pk) aT iz kk
 ·exact FA hr L hv I2 hf nF (nofr I1 pk) aT (pj c' _ n).1 (pj c' _ n).2
noncomputable def minLF(el:M D)(d dc:D):Option D:=match d with
 | .lst ds=>match keysL el dc ds with
  | some kz=>some (minL .non kz ds)
  | none=>none
 | _=>none
noncomputable def minLam(j:Nat)(el ga:M D):M D:=bnd ga λd=>bnd (valAt j) λdc=>lft (minLF el d dc)
theorem Fg{K:PySem.W.Frag}{G:Hp}{Γ:Gm}{U:L2.St}{el:M D}{dc:D}{vc:V}{l:g_}{all:List V}{Qf:List Int->Hp->Prop}:∀(ds:List D) (xs:List V) (H I:Hp) (af kz:List Int),RdK K I l all->IsA K I ds xs->Is K I dc vc->Rep K B G I H U Γ->keysL el dc ds=some kz →
  (∀H' I',Rep K B G I' H' U Γ->Grow G I I'->Qf (af++kz) H')->keyS (stpL (tD K B0 el) vc) (λH=>SqL K H l all) xs H af Qf
 | [],xs,H,I,af,kz,hl,ha,hc,r,h,k=>by
  rw[ha.nil_inv];cases h;have:=k H I r (Grow.refl _ _);rw[Rx] at this;exact⟨(Same.rdK r.iH hl).sq,this⟩
 | d::ds,xs,H,I,af,kz,hl,ha,hc,r,h,k=>by
  obtain⟨x,xr,rfl,h1,h2⟩:=ha.cons_inv;unfold keysL at h;split at h
  ·rename_i n Γ2 e1;split at h
   ·rename_i kr e2;cases h;refine⟨(Same.rdK r.iH hl).sq,H,I,_,_,_,L7 r.iH h1 hc,e1,λv H' I' r' g' hv=>⟨n,uZ hv,?_⟩⟩;have rx:Rep K B G I' H' U Γ:=r.ext g'.up r'.gH r'.iH g'.new;refine Fg ds xr H' I' (af++[n]) kr (Same.rdK g'.up hl) (h2.mono g'.up) (hc.mono g'.up) rx e2 λH2 I2 r2 g2=>?_
    have:=k H2 I2 r2 ((show Grow G I I' from⟨g'.up,λb o e=>(g'.new b o e).imp id λhn=>r.gFree hn⟩).trans g2);rw[Vf];exact this
   ·cases h
  ·cases h
theorem AG{K:PySem.W.Frag}{I:Hp}:∀{kz:List Int}{ds:List D}{xs:List V}{b:D}{x:V}{m:Int},IsA K I ds xs->Is K I b x->Is K I (bestK b m kz ds) (bestK x m kz xs)
 | [],ds,xs,b,x,m,h,hb=>by
  unfold bestK;exact hb
 | k::kz,[],xs,b,x,m,h,hb=>by
  rw[h.nil_inv];unfold bestK;exact hb
 | k::kz,d::ds,xs,b,x,m,h,hb=>by
  obtain⟨y,xr,rfl,h1,h2⟩:=h.cons_inv;rw[bestK,bestK];split
  ·exact AG h2 h1
  ·exact AG h2 hb
theorem IB{K:PySem.W.Frag}(h:IsA K I ds xs):Is K I (minL .non kz ds) (minL .non kz xs):=by
 cases kz with
 | nil=>exact Is.non
 | cons k kz =>
  cases ds with
  | nil=>rw[h.nil_inv];exact Is.non
  | cons d ds =>
   obtain⟨y,xr,rfl,h1,h2⟩:=h.cons_inv;exact AG h2 h1
theorem KB{c P:g_}(hr:Room (kb+3) X.A)(hg:Gl X "min")(hm:X.mg "min"=none)(L:LamFix X params body scope g y c0 (tD X.K B0 el) kb jc)(ht:Td X.K "letter_left"=some (c,P))(c7:X.env.code=.ref c)(hq:X.env.qual = "letter_left.<locals>.")(fz:W7 params X.env=([],[]))(cX:Ve scope X.env=pure [(y,c0)])(he:ED X B e ga)(hs:P_ pos (f_ [e] X.env)=(false,eval e X.env)::P_ pos (f_ [] X.env):=by rfl)(hp:(P_ pos (f_ [e] X.env)).any (·.1)=false:=by rfl):
  ED X B (.Call (.Name "min" p) [e] [⟨some "key", .Lambda params body scope dR,jT⟩,⟨some "default", .Constant .none jx cp,fA⟩] pos) (minLam jc el ga):=PE.imp (Mf hr hg hm L ht c7 hq fz cX he hs hp) λU H Q q=>by
 obtain⟨G,I,Γ,d,ae,r,e1,kk⟩:=q;obtain⟨d1,Γ1,e2,e3⟩:=uP e1;obtain⟨dc,Γ2,e4,e5⟩:=uP e3;obtain⟨e6,rfl⟩:=u6 e5;refine⟨G,I,Γ,d1,Γ1,r,e2,λv H1 I1 r1 g1 hd=>?_⟩;unfold valAt at e4;split at e4
 ·rename_i d2 sl;cases e4;obtain⟨vc,hv,sB⟩:=r1.slot jc _ sl;unfold minLF at e6;split at e6
  ·rename_i ds;split at e6
   ·rename_i kz ek;cases e6;obtain⟨l,xs,rfl,h3,h4⟩:=u5 hd
    have go:∀H2,Rep X.K B G I1 H2 U ae->keyS (stpL (tD X.K B0 el) vc) (λH=>SqL X.K H l xs) xs H2 [] (λkz H'=>Q (minL .non kz xs) H'):=λH2 r2 =>
     Fg ds xs H2 I1 [] kz h3 h4 sB r2 ek λH' I' r' g'=>kk _ H' I' r' (g1.trans g') (IB (h4.mono g'.up))
    refine⟨l,xs,vc,rfl,hv,(Same.rdK r1.iH h3).sq,go H1 r1,λc' o n=>⟨?_,go _ (r1.fresh n o)⟩⟩;exact(Same.rdK (r1.fresh n o).iH h3).sq
   ·cases e6
  ·cases e6
 ·cases e4
end
section
variable{prog:u_}{w:C_}{E:b_->c_->Prop}{s:c_}
theorem JG{it:g_}{wr:List g_}{P:Nat->b_->Prop}{St:Nat->K_->Prop}{Fit:c_->Prop}{out:WR->c_->Prop}(W:UV prog w A.in1 it fp wr n P St)(dj:S∉fp)(hn:n=ns.length)(n0:0 < n)(hP:∀i v,P i v->∃x t,ns[i]?=some x/\v=.int x t)(stay:∀s h' tk,Fit s->(∀b o,b∉wr->b≠S->s.heap.get? b=some o->h'.get? b=some o)->Fit { s with heap:=h',toks:=tk })(fin:∀t s,Fit s->out (.ok (.ret (.int (maxI 0 ns) t))) s):∀(left:Nat) (s:c_) (cells:Array b_) (c j:Nat),j+left=n->St j s.heap->Fit s->CellsI 0 ns j cells->s.heap.get? S=some { cls:=.type "list", dict:=none,data:=.seq cells c,slots:=#[] } →
   RS (l_ prog w) A (.builtin "max.loop" ⟨[.ref it,.none,.ref S],[]⟩) out s:=by
 have apart:S∉wr:=λh=>dj (W.sub _ h)
 have bL:∀{g:K_}{f:Obj->Obj}{b:g_}{o:Obj},b≠S->g.get? b=some o->(g.update S f).get? b=some o:=λne e=>(B_ _ _ (QW ne)).trans e
 have aM:(toString "max"++toString ".loop":String) = "max.loop":=by decide
 intro left
 induction left with
 | zero =>
  intro s cells c j len st dO bu slot;refine Q2 F.entry_max_loop ?_;rw[Ru Si _];refine a_ (m:=Tb (.ref S)) (Q5 slot rfl (a_ (m:=tryCatch (Sm (.ref it)) _) (Ro (W.done s _ _ (len▸st) λg tk kk=>?_))));have all:ns.take j=ns:=Tr (by omega);cases j with
  | zero =>
   omega
  | succ m =>
   obtain⟨t,rfl⟩:=bu;rw[all] at slot ⊢;exact a_ (m:=Tc S λ_=>#[]) (Q_ (kk S _ apart slot) rfl (a_ (Rk (d_ (fin t _ (stay s _ tk dO λx o n1 n2 e=>bL n2 (kk x o n1 e)))))))
 | succ left ih =>
  intro s cells c j len st dO bu slot;refine Q2 F.entry_max_loop ?_;rw[Ru Si _];refine a_ (m:=Tb (.ref S)) (Q5 slot rfl (a_ (m:=tryCatch (Sm (.ref it)) _) (Ro (W.item j s _ _ (by omega) st λv g tk eL dz kk=>?_))));obtain⟨x,t,ex,rfl⟩:=hP j v eL;have aK:=kk S _ apart slot;have cQ:=stay s g tk dO λx o n1 _ e=>kk x o n1 e
  have cY:ns.take (j+1)=ns.take j++[x]:=by rw[Ww,ex];rfl
  have next:∀(f:Obj->Obj) (aD:Array b_) (c':Nat),(g.update S f).get? S=some { cls:=.type "list", dict:=none,data:=.seq aD c',slots:=#[] }->CellsI 0 ns (j+1) aD →
    RS (l_ prog w) A (.builtin "max.loop" ⟨[.ref it,.none,.ref S],[]⟩) out { s with heap:=g.update S f,toks:=tk }:=λf aD c' here is =>
   ih _ aD c' (j+1) (by omega) (W.frame _ _ _ dz λb hb o e=>bL (λz=>dj (z▸hb)) e) (stay { s with heap:=g,toks:=tk } _ tk cQ λx o _ n2 e=>bL n2 e) is here
  cases j with
  | zero =>
   cases bu;refine a_ (m:=Tc S λ_=>#[.int x t,.int x t]) (Q_ aK rfl ?_);rw[aM];refine d_ ⟨J_ Si _,next _ _ _ (O_ _ aK rfl) ⟨t,?_⟩⟩;rw[cY];rfl
  | succ m =>
   obtain⟨t2,rfl⟩:=bu
   have ne:ns.take (m+1)≠[]:=λz=>by
    rcases VO.mp z with z | z
    ·exact absurd z (Nat.succ_ne_zero _)
    ·rw[z] at ex;simp at ex
   have step:maxI 0 (ns.take (m+2))=mx (maxI 0 (ns.take (m+1))) x:=by rw[cY,Hy 0 ne]
   refine a_ (m:=tryCatch (SE [.int x t,.int x t] (UF .Gt (.int x t) (.int (maxI 0 (ns.take (m+1))) t2) >>= _)) _) (Ro (F_ (a_ (gt_int (a_ (F_ (Ra (a_ (Rk (d_ ?_))))))))));by_cases hb:maxI 0 (ns.take (m+1)) < x
   ·rw[if_pos (by simpa using hb)];refine a_ (Q_ aK rfl (a_ (Rk ?_)));rw[aM];refine d_ ⟨J_ Si _,next _ _ _ (O_ _ aK rfl) ⟨t,?_⟩⟩;rw[step,mx,if_pos hb]
   ·rw[if_neg (by simpa using hb)];refine a_ (Rk ?_);rw[aM];refine d_ ⟨J_ Si _,ih _ _ c (m+2) (by omega) dz cQ ⟨t2,?_⟩ aK⟩;rw[step,mx,if_neg hb]
theorem NE{p:g_}{Q:b_->c_->Prop}(hh:A.handled=none)(L:s.heap.IsList p ac.toArray)(hI:UD ac ns)(n0:0 < ns.length)(fin:∀t h' tk,(∀b o,s.heap.get? b=some o->h'.get? b=some o)->Q (.int (maxI 0 ns) t) { s with heap:=h',toks:=tk }):m_ (l_ prog w) A (call (.builtin "max") [.ref p]) Q E s:=by
 have low:p < s.heap.objs.size:=by obtain⟨_,e,_⟩:=L;exact w_ e
 refine Ci F.kind_max F.plain_max F.entry_max (PySem.F.args_max1 _) ?_;refine a_ (RN (a:=[none,none]) rfl (a_ (d_ (a_ (RA L (a_ (M_ ?_)))))));have aM:(toString "max"++toString ".loop":String) = "max.loop":=by decide
 rw[aM];have W:=S7 (prog:=prog) (w:=w) (A:=A.in1) hh s.heap.objs.size p (H_ low) ac.toArray;have bn:∀o:Obj,(s.heap.push o).objs.size=s.heap.objs.size+1:=λo=>RT ..
 refine d_ ⟨J_ Si _,JG (Fit:=λs'=>∃h' tk,s'={ s with heap:=h',toks:=tk }/\∀b o,s.heap.get? b=some o->h'.get? b=some o) (ns:=ns) W ?_ ?_ ?_ ?_ ?_ ?_ ac.toArray.size _ #[] 0 0 (U2 _) ⟨⟨_,e_ _ (r_ _ rfl),rfl,rfl⟩,(L.push _).push _⟩ ⟨_,_,rfl,λb o e=>e_ _ (e_ _ e)⟩ rfl (r_ _ rfl)⟩
 ·rw[bn];intro z;rw[A_,q_] at z
  rcases z with z | z
  ·exact absurd z (Uf _)
  ·exact absurd z (Tg (Sx low))
 ·rw[o_,hI.length]
 ·rw[o_,hI.length];exact n0
 ·intro i v hv;exact A0 hI (by simpa using hv)
 ·rintro _ h' tk ⟨g,cY,rfl,keep⟩ k;refine⟨h',tk,rfl,λb o e=>k b o (λz=>?_) (λz=>?_) (keep b o e)⟩
  ·rw[q_] at z;exact H_ (w_ e) z
  ·rw[bn] at z;have:=w_ e;rw[z] at this;exact absurd this (Xe.mpr (Vg _))
 ·rintro t _ ⟨g,tk,rfl,keep⟩;exact fin t g tk keep
end
section
variable{B:BB}{p:Pos}{t:M (List D)}
theorem IG(hc:X.calm=true):CallR X (.builtin "max") (λxs H Q=>∃(p:g_) (ns:List Int),xs=[.ref p]/\SqL X.K H p (ns.map V.int)/\0 < ns.length/\Q (.int (maxI 0 ns)) H):=by
 rintro aa s U H xs us Q I r ⟨p,ns,rfl,hq,n0,q⟩;obtain⟨u,rfl,e⟩:=r.one;cases e;obtain⟨ac,rv,tl,hz⟩:=I.list hq;exact NE (I.ok.hd hc) tl.isList (Bz rv) n0 λt h' tk keep=>⟨.int (maxI 0 ns),H,I.kept keep,⟨t,rfl⟩,q⟩
noncomputable def maxNF(ds:List D):Option D:=match ds with
 | [.lst xs]=>match intsD xs with
  | some ns=>if 0 < ns.length then some (.int (maxI 0 ns)) else none
  | none=>none
 | _=>none
theorem Jn(h:0 < ns.length):maxNF [.lst (ns.map D.int)]=some (.int (maxI 0 ns)):=by
 unfold maxNF;simp only[B8];exact if_pos h
theorem OR(hc:X.calm=true)(hg:Gl X "max")(hm:X.mg "max"=none)(ha:AD X B [e] t)(he:f_ [e] X.env=(false,eval e X.env)::f_ [] X.env:=by rfl)(aB:(P_ pos (f_ [] X.env)).any (·.1)=false:=by rfl):
  ED X B (.Call (.Name "max" p) [e] [] pos) (fn1 maxNF t):=wB (IG hc) (λds d e B G I H U Γ xs Q r h k=>by
 unfold maxNF at e;split at e
 ·rename_i ys;cases en:intsD ys with
  | none=>rw[en] at e;cases e
  | some ns =>
   rw[en] at e;obtain⟨n0,rfl⟩:=ve e;rw[Bi en] at h;obtain⟨x,rfl,hx⟩:=h.one;obtain⟨q,zs,rfl,h3,h4⟩:=u5 hx;rw[BR h4] at h3;exact⟨q,ns,rfl,(Same.rdK r.iH h3).sq,n0,k.now r (Is.int _)⟩
 ·cases e) hg hm boot_max ha (by decide) (by decide) he aB
end
noncomputable def mi(m y:Int):Int:=if y < m then y else m
noncomputable def minI:List Int->Int
 | []=>0
 | x::xs=>xs.foldl mi x
theorem Ou(ne:ns≠[])(y:Int):minI (ns++[y])=mi (minI ns) y:=by
 match ns,ne with
 | x::xs,_=>simp[minI,Vk]
def CellsM(ns:List Int)(j:Nat)(cells:Array b_):Prop:=match j with
 | 0=>cells=#[]
 | j+1=>∃t,cells=#[.int (minI (ns.take (j+1))) t,.int (minI (ns.take (j+1))) t]
section
variable{prog:u_}{w:C_}{E:b_->c_->Prop}{s:c_}
theorem O2{it:g_}{wr:List g_}{P:Nat->b_->Prop}{St:Nat->K_->Prop}{Fit:c_->Prop}{out:WR->c_->Prop}(W:UV prog w A.in1 it fp wr n P St)(dj:S∉fp)(hn:n=ns.length)(n0:0 < n)(hP:∀i v,P i v->∃x t,ns[i]?=some x/\v=.int x t)(stay:∀s h' tk,Fit s->(∀b o,b∉wr->b≠S->s.heap.get? b=some o->h'.get? b=some o)->Fit { s with heap:=h',toks:=tk })(fin:∀t s,Fit s->out (.ok (.ret (.int (minI ns) t))) s):∀(left:Nat) (s:c_) (cells:Array b_) (c j:Nat),j+left=n->St j s.heap->Fit s->CellsM ns j cells->s.heap.get? S=some { cls:=.type "list", dict:=none,data:=.seq cells c,slots:=#[] } →
   RS (l_ prog w) A (.builtin "min.loop" ⟨[.ref it,.none,.ref S],[]⟩) out s:=by
 have apart:S∉wr:=λh=>dj (W.sub _ h)
 have bL:∀{g:K_}{f:Obj->Obj}{b:g_}{o:Obj},b≠S->g.get? b=some o->(g.update S f).get? b=some o:=λne e=>(B_ _ _ (QW ne)).trans e
 have aM:(toString "min"++toString ".loop":String) = "min.loop":=by decide
 intro left
 induction left with
 | zero =>
  intro s cells c j len st dO bu slot;refine Q2 TF ?_;rw[Ru Ri _];refine a_ (m:=Tb (.ref S)) (Q5 slot rfl (a_ (m:=tryCatch (Sm (.ref it)) _) (Ro (W.done s _ _ (len▸st) λg tk kk=>?_))));have all:ns.take j=ns:=Tr (by omega);cases j with
  | zero =>
   omega
  | succ m =>
   obtain⟨t,rfl⟩:=bu;rw[all] at slot ⊢;exact a_ (m:=Tc S λ_=>#[]) (Q_ (kk S _ apart slot) rfl (a_ (Rk (d_ (fin t _ (stay s _ tk dO λx o n1 n2 e=>bL n2 (kk x o n1 e)))))))
 | succ left ih =>
  intro s cells c j len st dO bu slot;refine Q2 TF ?_;rw[Ru Ri _];refine a_ (m:=Tb (.ref S)) (Q5 slot rfl (a_ (m:=tryCatch (Sm (.ref it)) _) (Ro (W.item j s _ _ (by omega) st λv g tk eL dz kk=>?_))));obtain⟨x,t,ex,rfl⟩:=hP j v eL;have aK:=kk S _ apart slot;have cQ:=stay s g tk dO λx o n1 _ e=>kk x o n1 e
  have cY:ns.take (j+1)=ns.take j++[x]:=by rw[Ww,ex];rfl
  have next:∀(f:Obj->Obj) (aD:Array b_) (c':Nat),(g.update S f).get? S=some { cls:=.type "list", dict:=none,data:=.seq aD c',slots:=#[] }->CellsM ns (j+1) aD →
    RS (l_ prog w) A (.builtin "min.loop" ⟨[.ref it,.none,.ref S],[]⟩) out { s with heap:=g.update S f,toks:=tk }:=λf aD c' here is =>
   ih _ aD c' (j+1) (by omega) (W.frame _ _ _ dz λb hb o e=>bL (λz=>dj (z▸hb)) e) (stay { s with heap:=g,toks:=tk } _ tk cQ λx o _ n2 e=>bL n2 e) is here
  cases j with
  | zero =>
   cases bu;refine a_ (m:=Tc S λ_=>#[.int x t,.int x t]) (Q_ aK rfl ?_);rw[aM];refine d_ ⟨J_ Ri _,next _ _ _ (O_ _ aK rfl) ⟨t,?_⟩⟩;rw[cY];rfl
  | succ m =>
   obtain⟨t2,rfl⟩:=bu
   have ne:ns.take (m+1)≠[]:=λz=>by
    rcases VO.mp z with z | z
    ·exact absurd z (Nat.succ_ne_zero _)
    ·rw[z] at ex;simp at ex
   have step:minI (ns.take (m+2))=mi (minI (ns.take (m+1))) x:=by rw[cY,Ou ne]
   refine a_ (m:=tryCatch (SE [.int x t,.int x t] (UF .Lt (.int x t) (.int (minI (ns.take (m+1))) t2) >>= _)) _) (Ro (F_ (a_ (lt_int (a_ (F_ (Ra (a_ (Rk (d_ ?_))))))))));by_cases hb:x < minI (ns.take (m+1))
   ·rw[if_pos (by simpa using hb)];refine a_ (Q_ aK rfl (a_ (Rk ?_)));rw[aM];refine d_ ⟨J_ Ri _,next _ _ _ (O_ _ aK rfl) ⟨t,?_⟩⟩;rw[step,mi,if_pos hb]
   ·rw[if_neg (by simpa using hb)];refine a_ (Rk ?_);rw[aM];refine d_ ⟨J_ Ri _,ih _ _ c (m+2) (by omega) dz cQ ⟨t2,?_⟩ aK⟩;rw[step,mi,if_neg hb]
theorem OM{p:g_}{Q:b_->c_->Prop}(hh:A.handled=none)(L:s.heap.IsList p ac.toArray)(hI:UD ac ns)(n0:0 < ns.length)(fin:∀t h' tk,(∀b o,s.heap.get? b=some o->h'.get? b=some o)->Q (.int (minI ns) t) { s with heap:=h',toks:=tk }):m_ (l_ prog w) A (call (.builtin "min") [.ref p]) Q E s:=by
 have low:p < s.heap.objs.size:=by obtain⟨_,e,_⟩:=L;exact w_ e
 refine Ci F.kind_min F.plain_min F.entry_min (PySem.F.args_min1 _) ?_;refine a_ (RN (a:=[none,none]) rfl (a_ (d_ (a_ (RA L (a_ (M_ ?_)))))));have aM:(toString "min"++toString ".loop":String) = "min.loop":=by decide
 rw[aM];have W:=S7 (prog:=prog) (w:=w) (A:=A.in1) hh s.heap.objs.size p (H_ low) ac.toArray;have bn:∀o:Obj,(s.heap.push o).objs.size=s.heap.objs.size+1:=λo=>RT ..
 refine d_ ⟨J_ Ri _,O2 (Fit:=λs'=>∃h' tk,s'={ s with heap:=h',toks:=tk }/\∀b o,s.heap.get? b=some o->h'.get? b=some o) (ns:=ns) W ?_ ?_ ?_ ?_ ?_ ?_ ac.toArray.size _ #[] 0 0 (U2 _) ⟨⟨_,e_ _ (r_ _ rfl),rfl,rfl⟩,(L.push _).push _⟩ ⟨_,_,rfl,λb o e=>e_ _ (e_ _ e)⟩ rfl (r_ _ rfl)⟩
 ·rw[bn];intro z;rw[A_,q_] at z
  rcases z with z | z
  ·exact absurd z (Uf _)
  ·exact absurd z (Tg (Sx low))
 ·rw[o_,hI.length]
 ·rw[o_,hI.length];exact n0
 ·intro i v hv;exact A0 hI (by simpa using hv)
 ·rintro _ h' tk ⟨g,cY,rfl,keep⟩ k;refine⟨h',tk,rfl,λb o e=>k b o (λz=>?_) (λz=>?_) (keep b o e)⟩
  ·rw[q_] at z;exact H_ (w_ e) z
  ·rw[bn] at z;have:=w_ e;rw[z] at this;exact absurd this (Xe.mpr (Vg _))
 ·rintro t _ ⟨g,tk,rfl,keep⟩;exact fin t g tk keep
end
section
variable{B:BB}{p:Pos}{t:M (List D)}
theorem Nz(hc:X.calm=true):CallR X (.builtin "min") (λxs H Q=>∃(p:g_) (ns:List Int),xs=[.ref p]/\SqL X.K H p (ns.map V.int)/\0 < ns.length/\Q (.int (minI ns)) H):=by
 rintro aa s U H xs us Q I r ⟨p,ns,rfl,hq,n0,q⟩;obtain⟨u,rfl,e⟩:=r.one;cases e;obtain⟨ac,rv,tl,hz⟩:=I.list hq;exact OM (I.ok.hd hc) tl.isList (Bz rv) n0 λt h' tk keep=>⟨.int (minI ns),H,I.kept keep,⟨t,rfl⟩,q⟩
noncomputable def minNF(ds:List D):Option D:=match ds with
 | [.lst xs]=>match intsD xs with
  | some ns=>if 0 < ns.length then some (.int (minI ns)) else none
  | none=>none
 | _=>none
theorem NY(h:0 < ns.length):minNF [.lst (ns.map D.int)]=some (.int (minI ns)):=by
 unfold minNF;simp only[B8];exact if_pos h
theorem K4(hc:X.calm=true)(hg:Gl X "min")(hm:X.mg "min"=none)(ha:AD X B [e] t)(he:f_ [e] X.env=(false,eval e X.env)::f_ [] X.env:=by rfl)(aB:(P_ pos (f_ [] X.env)).any (·.1)=false:=by rfl):
  ED X B (.Call (.Name "min" p) [e] [] pos) (fn1 minNF t):=wB (Nz hc) (λds d e B G I H U Γ xs Q r h k=>by
 unfold minNF at e;split at e
 ·rename_i ys;cases en:intsD ys with
  | none=>rw[en] at e;cases e
  | some ns =>
   rw[en] at e;obtain⟨n0,rfl⟩:=ve e;rw[Bi en] at h;obtain⟨x,rfl,hx⟩:=h.one;obtain⟨q,zs,rfl,h3,h4⟩:=u5 hx;rw[BR h4] at h3;exact⟨q,ns,rfl,(Same.rdK r.iH h3).sq,n0,k.now r (Is.int _)⟩
 ·cases e) hg hm WX ha (by decide) (by decide) he aB
end
end DL
namespace DL
open PySem L2
variable {α Y:Type}
def wp(m:M α)(Γ:Gm)(Q:α->Gm->Prop):Prop:=∃a ae,m Γ=some (a,ae)/\Q a ae
def wpF(g:List R->Option (R×List R))(rs:List R)(Q:R->List R->Prop):Prop:=∃r aZ,g rs=some (r,aZ)/\Q r aZ
def wpB(g:List R->Option (R×List R))(c ds:List D)(Q:R->List D->Prop):Prop:=∃r c',bcF g c ds=some (r,c')/\Q r c'
section
variable{Q:α->Gm->Prop}{QD:D->Gm->Prop}{QL:List D->Gm->Prop}{QB:Bool->Gm->Prop}{QS:Fl->Gm->Prop}{QU:Unit->Gm->Prop}
theorem wp.mono{m:M α}{Q':α->Gm->Prop}(h:wp m Γ Q)(f:∀a Γ,Q a Γ->Q' a Γ):wp m Γ Q':=by
 obtain⟨a,ae,e,q⟩:=h;exact⟨a,ae,e,f _ _ q⟩
@[simp ↓] theorem w8{a:α}:wp (ret a) Γ Q↔Q a Γ:=by
 constructor
 ·rintro⟨b,ae,e,q⟩;cases e;exact q
 ·intro q;exact⟨_,_,rfl,q⟩
@[simp ↓] theorem vh{Y:Type}{m:M Y}{f:Y->M α}:wp (bnd m f) Γ Q↔wp m Γ λb Γ1=>wp (f b) Γ1 Q:=by
 constructor
 ·rintro⟨a,ae,e,q⟩;obtain⟨b,Γ1,e1,e2⟩:=uP e;exact⟨b,Γ1,e1,a,ae,e2,q⟩
 ·rintro⟨b,Γ1,e1,a,ae,e2,q⟩;exact⟨a,ae,by unfold bnd;rw[e1];exact e2,q⟩
@[simp ↓] theorem Gh{a:α}:wp (lft (some a)) Γ Q↔Q a Γ:=by
 constructor
 ·rintro⟨b,ae,e,q⟩;cases e;exact q
 ·intro q;exact⟨_,_,rfl,q⟩
theorem vp{o:Option α}{a:α}(h:o=some a):wp (lft o) Γ Q↔Q a Γ:=by rw[h,Gh]
@[simp ↓] theorem L0{i:Nat}:wp (nm i) Γ QD↔match Γ[i]? with
  | some (some (.val d))=>QD d Γ
  | some (some (.own ds))=>QD (.lst ds) (Γ.set i (some (.val (.lst ds))))
  | some (some (.fro ds))=>QD (.lst ds) Γ
  | _=>False:=by
 unfold wp nm
 rcases e:Γ[i]? with _ | _ | r
 ·simp
 ·simp
 ·cases r<;>simp<;>exact⟨λ⟨_,_,⟨h1,h2⟩,q⟩=>by subst h1;subst h2;exact q,λq=>⟨_,_,⟨rfl,rfl⟩,q⟩⟩
@[simp ↓] theorem xl{F:D->D->Option α}{a b:M D}:wp (op2 F a b) Γ Q↔wp a Γ λx Γ1=>wp b Γ1 λy Γ2=>wp (lft (F x y)) Γ2 Q:=by simp[op2]
@[simp ↓] theorem PM{F:List D->Option α}{t:M (List D)}:wp (fn1 F t) Γ Q↔wp t Γ λds Γ1=>wp (lft (F ds)) Γ1 Q:=by simp[fn1]
@[simp ↓] theorem Qz:wp nilA Γ QL↔QL [] Γ:=by simp[nilA]
@[simp ↓] theorem vJ{g:M D}{t:M (List D)}:wp (consA g t) Γ QL↔wp g Γ λd Γ1=>wp t Γ1 λds Γ2=>QL (d::ds) Γ2:=by simp[consA]
@[simp ↓] theorem Cy{t:M (List D)}:wp (tupA t) Γ QD↔wp t Γ λds Γ1=>wp (lft (if ds.length<=lim then some (.tup ds) else none)) Γ1 QD:=by simp[tupA]
@[simp ↓] theorem A3{t:M (List D)}:wp (lstA t) Γ QL↔wp t Γ λds Γ1=>wp (lft (if ds.length<=lim then some ds else none)) Γ1 QL:=by simp[lstA]
@[simp ↓] theorem wI{t:M (List D)}:wp (frz t) Γ QD↔wp t Γ λds Γ1=>QD (.lst ds) Γ1:=by simp[frz]
@[simp ↓] theorem Pw{g:M D}:wp (tst g) Γ QB↔wp g Γ λd Γ1=>wp (lft (asB d)) Γ1 QB:=by simp[tst]
@[simp] theorem PX{b:Bool}:asB (.bl b)=some b:=rfl
@[simp] theorem PJ{b:Int}:asI (.int b)=some b:=rfl
@[simp ↓] theorem Qg{F:D->D->Option D}{a b c:M D}:wp (chn F F' a b c) Γ QD↔wp a Γ λx Γ1=>wp b Γ1 λy Γ2=>wp (lft (F x y)) Γ2 λz aI=>wp (lft (asB z)) aI λk aJ=>if k=true then wp c aJ λw fj=>wp (lft (F' y w)) fj QD else QD (.bl false) aJ:=by
 simp only[chn,vh]
 constructor<;>(intro h;refine h.mono λx Γ1 h=>h.mono λy Γ2 h=>h.mono λz aI h=>h.mono λk aJ h=>?_)<;>(cases k<;>simpa using h)
@[simp ↓] theorem PV{a b:M Bool}:wp (andT a b) Γ QB↔wp a Γ λk Γ1=>if k=true then wp b Γ1 QB else QB false Γ1:=by
 simp only[andT,vh]
 constructor<;>(intro h;refine h.mono λk Γ1 h=>?_)<;>(cases k<;>simpa using h)
@[simp ↓] theorem QA{a b:M Bool}:wp (orT a b) Γ QB↔wp a Γ λk Γ1=>if k=true then QB true Γ1 else wp b Γ1 QB:=by
 simp only[orT,vh]
 constructor<;>(intro h;refine h.mono λk Γ1 h=>?_)<;>(cases k<;>simpa using h)
@[simp ↓] theorem Qa{a:M Bool}:wp (notT a) Γ QB↔wp a Γ λk Γ1=>QB (!k) Γ1:=by simp[notT]
@[simp ↓] theorem PR{a b:M D}:wp (andV a b) Γ QD↔wp a Γ λd Γ1=>wp (lft (asB d)) Γ1 λk Γ2=>if k=true then wp b Γ2 QD else QD (.bl false) Γ2:=by
 simp only[andV,vh]
 constructor<;>(intro h;refine h.mono λd Γ1 h=>h.mono λk Γ2 h=>?_)<;>(cases k<;>simpa using h)
theorem CV{a b:M Fl}:wp (seqS a b) Γ QS↔wp a Γ λf Γ1=>match f with
  | .nx=>wp b Γ1 QS
  | .rt r=>QS (.rt r) Γ1
  | .bk=>QS .bk Γ1
  | .ct=>QS .ct Γ1:=by
 simp only[seqS,vh]
 constructor<;>(intro h;refine h.mono λf Γ1 h=>?_)<;>(cases f<;>simpa using h)
@[simp ↓] theorem Qs{a:M D}:wp (dropS a) Γ QS↔wp a Γ λ_ Γ1=>QS .nx Γ1:=by simp[dropS]
@[simp ↓] theorem P4{a:M D}:wp (retS a) Γ QS↔wp a Γ λd Γ1=>QS (.rt (.val d)) Γ1:=by simp[retS]
@[simp ↓] theorem Pt{a:M (List D)}:wp (retO a) Γ QS↔wp a Γ λd Γ1=>QS (.rt (.own d)) Γ1:=by simp[retO]
@[simp ↓] theorem Jl{c:M Bool}{a b:M Fl}:wp (ifS c a b) Γ QS↔wp c Γ λk Γ1=>if k=true then wp a Γ1 QS else wp b Γ1 QS:=by
 simp only[ifS,vh]
 constructor<;>(intro h;refine h.mono λk Γ1 h=>?_)<;>(cases k<;>simpa using h)
@[simp ↓] theorem Ky{i:Nat}{q:R}:wp (putS i q) Γ QU↔i < Γ.length/\QU () (Γ.set i (some q)):=by
 unfold wp putS;constructor
 ·rintro⟨a,ae,e,h⟩;obtain⟨h1,h2⟩:=ve e;cases h2;exact⟨h1,h⟩
 ·rintro⟨h1,h2⟩;exact⟨(),_,by rw[if_pos h1],h2⟩
@[simp ↓] theorem Pz{i:Nat}:wp (tgN i d) Γ QU↔i < Γ.length/\QU () (Γ.set i (some (.val d))):=by simp[tgN]
@[simp ↓] theorem Py:wp (tgNil []) Γ QU↔QU () Γ:=by simp[tgNil]
@[simp ↓] theorem PY{f:D->M Unit}{t:List D->M Unit}:wp (tgCons f t (d::ds)) Γ QU↔wp (f d) Γ λ_ Γ1=>wp (t ds) Γ1 QU:=by simp[tgCons]
@[simp ↓] theorem Pp{t:List D->M Unit}:wp (tgTup n t (.tup ds)) Γ QU↔ds.length=n/\wp (t ds) Γ QU:=by
 unfold tgTup;by_cases h:ds.length=n
 ·simp[h]
 ·simp only[h,if_false,false_and,iff_false];rintro⟨_,_,e,_⟩;cases e
@[simp ↓] theorem PN{g:M D}{f:D->M Unit}:wp (asgS g f) Γ QS↔wp g Γ λd Γ1=>wp (f d) Γ1 λ_ Γ2=>QS .nx Γ2:=by simp[asgS]
@[simp ↓] theorem BA{i:Nat}{g:M D}:wp (setV i g) Γ QS↔wp g Γ λd Γ1=>i < Γ1.length/\QS .nx (Γ1.set i (some (.val d))):=by simp[setV]
@[simp ↓] theorem PZ{i:Nat}{g:M (List D)}:wp (setO i g) Γ QS↔wp g Γ λd Γ1=>i < Γ1.length/\QS .nx (Γ1.set i (some (.own d))):=by simp[setO]
@[simp ↓] theorem ya{i:Nat}{m:M α}:wp (mutS i m) Γ Q↔isMut Γ i=true/\wp m Γ Q:=by
 unfold mutS wp;by_cases h:isMut Γ i=true
 ·simp[h]
 ·simp[h]
@[simp ↓] theorem QE{i:Nat}:wp (wr i F) Γ QU↔match Γ[i]? with
  | some (some (.own ds))=>∃es,F ds=some es/\QU () (Γ.set i (some (.own es)))
  | some (some (.bor ds))=>∃es,F ds=some es/\QU () (Γ.set i (some (.bor es)))
  | _=>False:=by
 unfold wp wr
 rcases e:Γ[i]? with _ | _ | r
 ·simp
 ·simp
 ·cases r with
  | val d=>simp
  | fro d=>simp
  | dic d=>simp
  | own ds =>
   rcases he:F ds with _ | es
   ·simp[he]
   ·simp[he];exact⟨λ⟨_,q⟩=>q,λq=>⟨(),q⟩⟩
  | bor ds =>
   rcases he:F ds with _ | es
   ·simp[he]
   ·simp[he];exact⟨λ⟨_,q⟩=>q,λq=>⟨(),q⟩⟩
@[simp ↓] theorem Qr{i:Nat}{g:M D}:wp (appS i g) Γ QS↔isMut Γ i=true/\wp g Γ λd Γ1=>wp (wr i (appF d)) Γ1 λ_ Γ2=>QS .nx Γ2:=by simp only[appS,ya,vh,w8]
@[simp ↓] theorem QM{i:Nat}{gi gv:M D}:wp (stS i gi gv) Γ QS↔wp gv Γ λd Γ1=>isMut Γ1 i=true/\wp gi Γ1 λn Γ2=>wp (lft (asI n)) Γ2 λk aI=>wp (wr i (stF k d)) aI λ_ aJ=>QS .nx aJ:=by simp only[stS,ya,vh,w8]
@[simp ↓] theorem Qj{i:Nat}:wp (look i) Γ QD↔match Γ[i]? with
  | some (some (.own ds))=>QD (.lst ds) Γ
  | some (some (.bor ds))=>QD (.lst ds) Γ
  | _=>False:=by
 unfold wp look
 rcases e:Γ[i]? with _ | _ | r
 ·simp
 ·simp
 ·cases r<;>simp<;>exact⟨λ⟨_,_,⟨h1,h2⟩,q⟩=>by subst h1;subst h2;exact q,λq=>⟨_,_,⟨rfl,rfl⟩,q⟩⟩
@[simp ↓] theorem Pl{i:Nat}{g:M D}:wp (atN i g) Γ QD↔isMut Γ i=true/\wp g Γ λn Γ1=>wp (look i) Γ1 λl Γ2=>wp (lft (ixF l n)) Γ2 QD:=by simp only[atN,ya,vh]
@[simp ↓] theorem Ps{i:Nat}:wp (lenN i) Γ QD↔wp (look i) Γ λl Γ2=>wp (lft (lenF [l])) Γ2 QD:=by simp only[lenN,vh]
@[simp ↓] theorem Po{i:Nat}{g:M D}:wp (cmpN neg i g) Γ QD↔isMut Γ i=true/\wp g Γ λn Γ1=>wp (look i) Γ1 λl Γ2=>wp (lft (eqF neg l n)) Γ2 QD:=by simp only[cmpN,ya,vh]
@[simp ↓] theorem Qk{g:M D}{QO:Option Int->Gm->Prop}:wp (prt g) Γ QO↔wp g Γ λd Γ1=>wp (lft (asI d)) Γ1 λi Γ2=>QO (some i) Γ2:=by simp[prt]
@[simp ↓] theorem Qi{F:D->Option Int->Option Int->Option α}{g:M D}:wp (sl3 F g gl gh) Γ Q↔wp g Γ λd Γ1=>wp gl Γ1 λl Γ2=>wp gh Γ2 λh aI=>wp (lft (F d l h)) aI Q:=by simp[sl3]
@[simp ↓] theorem Kj{g:M D}:wp (itS g) Γ QL↔wp g Γ λd Γ1=>wp (lft (seqI d)) Γ1 QL:=by simp[itS]
@[simp ↓] theorem Qw{body:M Fl}:wp (forS it az body) Γ QS↔wp it Γ λds Γ1=>wp (forM az body ds) Γ1 QS:=by simp[forS]
@[simp ↓] theorem QJ{i:Nat}{g:List R->Option (R×List R)}{t:M (List D)}{QR:R->Gm->Prop}:wp (callB i g t) Γ QR↔isMut Γ i=true/\wp t Γ λds Γ1=>match Γ1[i]? with
  | some (some (.own c))=>wpB g c ds λr c'=>QR r (Γ1.set i (some (.own c')))
  | some (some (.bor c))=>wpB g c ds λr c'=>QR r (Γ1.set i (some (.bor c')))
  | _=>False:=by
 simp only[callB,ya,vh];refine and_congr_right λ_=>?_
 have bp:∀(ds:List D) (Γ1:Gm),wp (λΓ:Gm=>match Γ[i]? with
   | some (some (.own c))=>match bcF g c ds with
    | some (r,c')=>some (r,Γ.set i (some (.own c')))
    | none=>none
   | some (some (.bor c))=>match bcF g c ds with
    | some (r,c')=>some (r,Γ.set i (some (.bor c')))
    | none=>none
   | _=>none) Γ1 QR↔(match Γ1[i]? with
  | some (some (.own c))=>wpB g c ds λr c'=>QR r (Γ1.set i (some (.own c')))
  | some (some (.bor c))=>wpB g c ds λr c'=>QR r (Γ1.set i (some (.bor c')))
  | _=>False):=by
  intro ds Γ1;unfold wp wpB;dsimp only
  rcases e:Γ1[i]? with _ | _ | r
  ·simp
  ·simp
  ·cases r with
   | val d=>simp
   | fro d=>simp
   | dic d=>simp
   | own c =>
    rcases he:bcF g c ds with _ | ⟨r,c'⟩
    ·simp[he]
    ·simp only[he];constructor
     ·rintro⟨a,b,h,q⟩;cases h;exact⟨_,_,rfl,q⟩
     ·rintro⟨a,b,h,q⟩;cases h;exact⟨_,_,rfl,q⟩
   | bor c =>
    rcases he:bcF g c ds with _ | ⟨r,c'⟩
    ·simp[he]
    ·simp only[he];constructor
     ·rintro⟨a,b,h,q⟩;cases h;exact⟨_,_,rfl,q⟩
     ·rintro⟨a,b,h,q⟩;cases h;exact⟨_,_,rfl,q⟩
 constructor
 ·intro h;exact h.mono λds Γ1 h=>(bp ds Γ1).mp h
 ·intro h;exact h.mono λds Γ1 h=>(bp ds Γ1).mpr h
@[simp ↓] theorem QK{i:Nat}{g:List R->Option (R×List R)}{t:M (List D)}:wp (cbV i g t) Γ QD↔wp (callB i g t) Γ λr Γ1=>wp (lft (asV r)) Γ1 QD:=by simp only[cbV,vh]
@[simp] theorem PQ:asV (.val d)=some d:=rfl
@[simp] theorem Pk{d:List D}:asO (.own d)=some d:=rfl
theorem Gz{body:M Fl}(J:Nat->Gm->Prop)(h0:J 0 Γ)(hs:∀(i:Nat) (d:D) (Γ:Gm),ds[i]?=some d->J i Γ->wp (az d) Γ λ_ Γ1=>wp body Γ1 λf Γ2=>match f with
   | .nx=>J (i+1) Γ2
   | .ct=>J (i+1) Γ2
   | .bk=>QS .nx Γ2
   | .rt r=>QS (.rt r) Γ2)(hd:∀Γ,J ds.length Γ->QS .nx Γ):wp (forM az body ds) Γ QS:=by
 have bp:∀(n:Nat) (es:List D) (Γ:Gm) (i:Nat),es.length=n->ds.drop i=es->i<=ds.length->J i Γ->wp (forM az body es) Γ QS:=by
  intro n
  induction n with
  | zero =>
   intro es Γ i hl he hi hj;have:es=[]:=RG.mp hl;subst this
   have cN:i=ds.length:=by
    have:=congrArg Vx he;rw[TU] at this;simp at this;omega
   subst cN;exact⟨_,_,rfl,hd Γ hj⟩
  | succ n ih =>
   intro es Γ i hl he hi hj;cases es with
   | nil=>simp at hl
   | cons d es =>
    have bz:i < ds.length:=by
     have:=congrArg Vx he;rw[TU,Rp] at this;omega
    have iV:ds.drop i=ds[i]::ds.drop (i+1):=Q0 bz;rw[iV] at he;injection he with e1 e2
    have bS:ds[i]?=some d:=by rw[h_ bz,e1]
    have step:=hs i d Γ bS hj;rw[forM,vh];refine step.mono λ_ Γ1 h1=>?_
    rw[vh];refine h1.mono λf Γ2 h2=>?_
    cases f with
    | nx=>exact ih es Γ2 (i+1) (by simpa using hl) e2 bz h2
    | ct=>exact ih es Γ2 (i+1) (by simpa using hl) e2 bz h2
    | bk=>exact⟨_,_,rfl,h2⟩
    | rt r=>exact⟨_,_,rfl,h2⟩
 exact bp ds.length ds Γ 0 rfl rfl (Rw _) h0
theorem Ag{body:M Fl}{QR:R->List R->Prop}(hl:rs.length=ar)(h:wp body (rs.map some++QY (n - rs.length) none) λf ae=>∃r,flR f=some r/\∃l,fin rs ae=some l/\QR r l):wpF (fnD n ar body) rs QR:=by
 obtain⟨f,ae,e,r,e1,l,e2,q⟩:=h;refine⟨r,l,?_,q⟩;unfold fnD;rw[if_pos hl];unfold fnD1;rw[e];simp only[e1,e2]
theorem Gi{g:List R->Option (R×List R)}(h:wpF g (ds.map .val) λr _=>r=.val d):cvF g ds=some d:=by
 obtain⟨r,aZ,e,rfl⟩:=h;unfold cvF;rw[e]
theorem Ff{g:List R->Option (R×List R)}{P:List D->Prop}(h:wpF g (ds.map .val) λr _=>∃d,r=.own d/\P d):∃d,coF g ds=some d/\P d:=by
 obtain⟨r,aZ,e,d,rfl,hp⟩:=h;exact⟨d,by unfold coF;rw[e],hp⟩
theorem Lc{g:List R->Option (R×List R)}{QR:R->List D->Prop}(h:wpF g (.bor c::ds.map .val) λr aZ=>∃c' t,aZ=.bor c'::t/\QR r c'):wpB g c ds QR:=by
 obtain⟨r,aZ,e,c',t,rfl,q⟩:=h;exact⟨r,c',by unfold bcF;rw[e],q⟩
end
end DL
namespace DL
open PySem L2
section
variable{α:Type}{Q:α->Gm->Prop}{QD:D->Gm->Prop}{QL:List D->Gm->Prop}{i j:Int}
@[simp ↓] theorem wK{c:Prop}[Decidable c]{a:α}:wp (lft (if c then some a else none)) Γ Q↔c/\Q a Γ:=by
 by_cases h:c
 ·simp[h]
 ·simp only[h,if_false,false_and,iff_false];rintro⟨_,_,e,_⟩;cases e
@[simp ↓] theorem P6:wp (λ_=>(none:Option (α×Gm))) Γ Q↔False:=by
 simp only[iff_false];rintro⟨_,_,e,_⟩;cases e
@[simp] theorem QG:subI (.int i) (.int j)=some (.int (i - j)):=rfl
@[simp] theorem PK:addF (.int i) (.int j)=some (.int (i+j)):=rfl
@[simp] theorem f_lt:ltI (.int i) (.int j)=some (.bl (decide (i < j))):=rfl
@[simp] theorem f_le:leI (.int i) (.int j)=some (.bl (decide (i<=j))):=rfl
@[simp] theorem f_gt:gtI (.int i) (.int j)=some (.bl (decide (j < i))):=rfl
@[simp] theorem f_ge:geI (.int i) (.int j)=some (.bl (decide (j<=i))):=rfl
@[simp ↓] theorem Qx:wp (lft (modI (.int i) (.int j))) Γ QD↔0 < j/\QD (.int (i % j)) Γ:=by simp[modI,intF]
@[simp ↓] theorem PB:wp (lft (divI (.int i) (.int j))) Γ QD↔(0 < j/\j < 2 ^ 200)/\QD (.int (i / j)) Γ:=by simp only[divI,intF,decide_eq_true_eq,wK]
@[simp ↓] theorem PU:wp (lft (mulI (.int i) (.int j))) Γ QD↔((-(2 ^ 64) < i/\i < 2 ^ 64)\/(-(2 ^ 64) < j/\j < 2 ^ 64))/\QD (.int (i*j)) Γ:=by simp only[mulI,intF,decide_eq_true_eq,wK]
@[simp ↓] theorem Pr:wp (lft (powI (.int i) (.int j))) Γ QD↔(0<=j/\j<=1000000/\i.natAbs < 2 ^ 64)/\QD (.int (i ^ j.toNat)) Γ:=by simp only[powI,intF,decide_eq_true_eq,wK]
@[simp] theorem P5:ixF (.lst ds) (.int i)=atI ds i:=rfl
@[simp] theorem PD:ixF (.tup ds) (.int i)=atI ds i:=rfl
theorem vX{α:Type}{ds:List α}:atI ds (n:Int)=ds[n]?:=by
 unfold atI ixN;rw[if_pos (by omega)];by_cases h:(n:Int) < ds.length
 ·rw[if_pos h];simp
 ·rw[if_neg h];have:ds.length<=n:=by omega
  simp[Tt this]
@[simp] theorem Iz{α:Type}{a:α}{ds:List α}:atI (a::ds) 0=some a:=by
 rw[show(0:Int)=((0:Nat):Int) from rfl,vX];rfl
@[simp] theorem Pf{α:Type}{a b:α}{ds:List α}:atI (a::b::ds) 1=some b:=by
 rw[show(1:Int)=((1:Nat):Int) from rfl,vX];rfl
@[simp] theorem QQ{α:Type}{a b c:α}{ds:List α}:atI (a::b::c::ds) 2=some c:=by
 rw[show(2:Int)=((2:Nat):Int) from rfl,vX];rfl
theorem BZ{α:Type}{ds:List α}{i:Int}(h0:0<=i)(h1:i < ds.length):∃a,atI ds i=some a/\a∈ds:=by
 obtain⟨n,rfl⟩:=U9 h0;have h:n < ds.length:=by omega
 exact⟨ds[n],by rw[vX,h_ h],RB h⟩
@[simp] theorem Qn{a b:D}:stF 1 d (a::b::ds)=some (a::d::ds):=by
 unfold stF ixN;rw[if_pos (by omega),if_pos (by simp;omega)];rfl
@[simp] theorem Qq{a b c:D}:stF 2 d (a::b::c::ds)=some (a::b::d::ds):=by
 unfold stF ixN;rw[if_pos (by omega),if_pos (by simp;omega)];rfl
@[simp] theorem QP:lenF [.lst ds]=some (.int ds.length):=rfl
@[simp] theorem QV:lenF [.tup ds]=some (.int ds.length):=rfl
@[simp] theorem P0:minF [.int i,.int j]=some (.int (min i j)):=by
 unfold minF;dsimp only;congr 2;split<;>omega
@[simp] theorem Pu:maxF [.int i,.int j]=some (.int (max i j)):=by
 unfold maxF;dsimp only;congr 2;split<;>omega
@[simp] theorem Pn:tupF [.lst ds]=some (.tup ds):=rfl
@[simp] theorem Qh:tupF [.tup ds]=some (.tup ds):=rfl
@[simp] theorem Pv:lstF [.lst ds]=some ds:=rfl
@[simp] theorem Ql:lstF [.tup ds]=some ds:=rfl
@[simp] theorem Hg:seqI (.lst ds)=some ds:=rfl
@[simp] theorem Qe:seqI (.tup ds)=some ds:=rfl
@[simp] theorem Qt{b:Bool}:reprF [.bl b]=some (.str (if b then "True" else "False")):=rfl
@[simp] theorem QI{lo:Option Int}:slF (.lst ds) lo hi=some (.lst (cutD ds lo hi)):=rfl
@[simp] theorem P8{xs:List D}:zipI [.lst xs,.lst ys]=some (pairsD xs ys):=rfl
@[simp] theorem Qo{xs:List D}:zipI [.tup xs,.tup ys]=some (pairsD xs ys):=rfl
@[simp] theorem QN{xs:List D}:enumI [.lst xs]=some (numD 0 xs):=rfl
@[simp] theorem Ph{xs:List D}:enumI [.tup xs]=some (numD 0 xs):=rfl
@[simp ↓] theorem PP:wp (lft (rngI1 [.int j])) Γ QL↔(-1000000<=j/\j<=1000000)/\QL (rngD 0 j.toNat) Γ:=by simp only[rngI1,wK]
@[simp ↓] theorem Qp{a b:D}:wp (lft (eqF neg a b)) Γ QD↔(dep a<=100/\dep b<=100)/\QD (.bl (if neg then !deq a b else deq a b)) Γ:=by simp only[eqF,wK]
@[simp ↓] theorem QT{xs:List D}:wp (lft (catF (.lst xs) (.lst ys))) Γ QL↔xs.length+ys.length<=lim/\QL (xs++ys) Γ:=by simp only[catF,wK]
@[simp ↓] theorem PC{xs:List D}:wp (lft (addF (.tup xs) (.tup ys))) Γ QD↔xs.length+ys.length<=lim/\QD (.tup (xs++ys)) Γ:=by simp only[addF,wK]
@[simp] theorem P3{a:Int}:dep (.int a)=0:=by simp[dep]
@[simp] theorem Qb{a:Str}:dep (.str a)=0:=by simp[dep]
@[simp] theorem Qu:dep (.lst [])=1:=by simp[dep,depA]
@[simp] theorem xU{a b:Str}:deq (.str a) (.str b)=(a == b):=by simp[deq]
@[simp] theorem DA{a b:Int}:deq (.int a) (.int b)=(a == b):=by simp[deq]
@[simp] theorem Qy:deq (.lst ds) (.lst [])=ds.isEmpty:=by cases ds<;>simp[deq,deqA]
@[simp] theorem Pj{a b:Bool}:deq (.str (if a then "True" else "False")) (.str (if b then "True" else "False"))=(a == b):=by cases a<;>cases b<;>decide
@[simp] theorem MN:lim=1000000:=rfl
theorem zm{d k:Nat}:HT.sIx n d (some (k:Int))=min k n:=by
 show(if(k:Int) < 0 then((k:Int)+(n:Int)).toNat else min (k:Int).toNat n)=min k n;rw[if_neg (by omega),Ti]
theorem BU:cutD ds none (some (n:Int))=ds.take n:=by
 unfold cutD;rw[zm,HT.An];simp
theorem CW:cutD ds (some (n:Int)) none=ds.drop n:=by
 unfold cutD;rw[zm,HT.An,Tr (by simp)];by_cases h:n<=ds.length
 ·rw[Nat.min_eq_left h]
 ·rw[Nat.min_eq_right (by omega),SF (x_ _),SF (by omega)]
theorem F8(h:n < ds.length):slF (.tup ds) none (some (n:Int))=some (.tup (ds.take n)):=by
 unfold slF;dsimp only;rw[zm,HT.An,if_neg (by omega),BU]
theorem DU(h:0 < ds.length)(h1:0 < n):slF (.tup ds) (some (n:Int)) none=some (.tup (ds.drop n)):=by
 unfold slF;dsimp only;rw[zm,HT.An,if_neg (by omega),CW]
@[simp] theorem Pq{P:List D->Prop}:(∃es,appF d ds=some es/\P es)↔ds.length < 1000000/\P (ds++[d]):=by
 unfold appF;rw[MN];by_cases h:ds.length < 1000000<;>simp[h]
theorem uN{a b:M Fl}{QS:Fl->Gm->Prop}(h:∀K:Fl->Gm->Prop,(∀Γ1,wp b Γ1 QS->K .nx Γ1)->(∀r Γ1,QS (.rt r) Γ1->K (.rt r) Γ1)->wp a Γ K):wp (seqS a b) Γ QS:=by
 rw[CV];exact h _ (λ_ h=>h) (λ_ _ h=>h)
theorem wt{a b:M Fl}{QS:Fl->Gm->Prop}(P:Gm->Prop)(h:∀K:Fl->Gm->Prop,(∀Γ1,P Γ1->K .nx Γ1)->(∀r Γ1,QS (.rt r) Γ1->K (.rt r) Γ1)->wp a Γ K)(h2:∀Γ1,P Γ1->wp b Γ1 QS):wp (seqS a b) Γ QS:=by
 rw[CV];exact h _ (λ_ p=>h2 _ p) (λ_ _ h=>h)
theorem vU{body:M Fl}{QS:Fl->Gm->Prop}(J:Nat->Gm->Prop)(h0:J 0 Γ)(hs:∀(i:Nat) (d:D) (Γ:Gm),ds[i]?=some d->J i Γ->∀K:Fl->Gm->Prop,(∀Γ2,J (i+1) Γ2->K .nx Γ2)->(∀Γ2,J (i+1) Γ2->K .ct Γ2)->(∀Γ2,QS .nx Γ2->K .bk Γ2)->(∀r Γ2,QS (.rt r) Γ2->K (.rt r) Γ2)->wp (az d) Γ λ_ Γ1=>wp body Γ1 K)(hd:∀Γ,J ds.length Γ->QS .nx Γ):wp (forM az body ds) Γ QS:=
 Gz J h0 (λi d Γ h j=>hs i d Γ h j _ (λ_ h=>h) (λ_ h=>h) (λ_ h=>h) (λ_ _ h=>h)) hd
theorem vG{body:M Fl}{QR:R->List R->Prop}(hl:rs.length=ar)(h:∀K:Fl->Gm->Prop,(∀r ae,(∃l,fin rs ae=some l/\QR r l)->K (.rt r) ae)->(∀ae,(∃l,fin rs ae=some l/\QR (.val .non) l)->K .nx ae)->wp body (rs.map some++QY (n - rs.length) none) K):wpF (fnD n ar body) rs QR:=
 Ag hl (h _ (λr _ h=>⟨r,rfl,h⟩) (λ_ h=>⟨_,rfl,h⟩))
theorem xt{body:M Fl}{QR:R->List D->Prop}(hl:ds.length+1=ar)(h:∀K:Fl->Gm->Prop,(∀r c' ae,(∃t,fin (ds.map .val) ae=some t)->QR r c'->K (.rt r) (some (.bor c')::ae))->(∀c' ae,(∃t,fin (ds.map .val) ae=some t)->QR (.val .non) c'->K .nx (some (.bor c')::ae))->wp body ((.bor c::ds.map .val).map some++QY (n - (ds.length+1)) none) K):wpB (fnD n ar body) c ds QR:=by
 refine Lc (vG (by simpa using hl) λK k1 k2=>?_);refine(by simpa using h K (λr c' ae ⟨t,e⟩ q=>k1 r _ ⟨_,by simp[fin,e],c',t,rfl,q⟩) (λc' ae ⟨t,e⟩ q=>k2 _ ⟨_,by simp[fin,e],c',t,rfl,q⟩))
theorem DS{α:Type}{ts:M Bool}(xs:List α)(f:α->D)(p:α->Bool)(v:α->D)(h:wp it Γ λds Γ1=>ds=xs.map f/\xs.length<=1000000/\(∀x∈xs,∀cs:Gm,cs.length=m->wp (az (f x)) (cs++Γ1) λ_ Γ2=>wp ts Γ2 λb aI=>b=p x/\(if b=true then wp el aI λy aJ=>y=v x/\∃c8,c8.length=m/\aJ=c8++Γ1 else ∃c8,c8.length=m/\aI=c8++Γ1)) ∧
   QL ((xs.filter p).map v) Γ1):wp (compO m it az ts el) Γ QL:=by
 unfold compO;rw[vh];refine h.mono λds Γ1 ⟨gT,hl,hp,hq⟩=>?_
 subst gT;rw[if_pos (by simpa using hl)]
 have bp:∀(es:List α) (cs:Gm),(∀d∈es,d∈xs)->cs.length=m->∃c8,c8.length=m/\compM az ts el (es.map f) (cs++Γ1)=some ((es.filter p).map v,c8++Γ1):=by
  intro es
  induction es with
  | nil=>intro cs _ hc;exact⟨cs,hc,rfl⟩
  | cons d es ih =>
   intro cs hm hc;obtain⟨u,Γ2,e1,b,aI,e2,hb,h3⟩:=hp d (hm d v_) cs hc;have fW:∀d∈es,d∈xs:=λd hd=>hm d (s_ _ hd)
   cases b with
   | false =>
    rw[if_neg i_] at h3;obtain⟨c8,aO,rfl⟩:=h3;obtain⟨mX,dH,e3⟩:=ih c8 fW aO;refine⟨mX,dH,?_⟩;rw[Q7,compM];unfold bnd;simp only[e1,e2,TQ,if_false];rw[e3,U_,←hb];simp
   | true =>
    rw[if_pos rfl] at h3;obtain⟨x,aJ,e4,rfl,c8,aO,rfl⟩:=h3;obtain⟨mX,dH,e3⟩:=ih c8 fW aO;refine⟨mX,dH,?_⟩;rw[Q7,compM];unfold bnd;simp only[e1,e2,if_true,e4];rw[e3,U_,←hb];rfl
 obtain⟨c8,aO,e⟩:=bp xs (QY m none) (λ_ h=>h) (by simp);refine⟨_,_,?_,hq⟩;unfold inC;rw[e];simp[aO,List.drop_append]
theorem vT{α:Type}{ts:M Bool}(xs:List α)(f:α->D)(p:α->Bool)(v:α->D)(h:wp it Γ λds Γ1=>ds=xs.map f/\xs.length<=1000000/\(∀x∈xs,∀a,wp (az (f x)) (a::Γ1) λ_ Γ2=>wp ts Γ2 λb aI=>b=p x/\(if b=true then wp el aI λy aJ=>y=v x/\∃a',aJ=a'::Γ1 else ∃a',aI=a'::Γ1)) ∧
   QL ((xs.filter p).map v) Γ1):wp (compO 1 it az ts el) Γ QL:=by
 refine DS xs f p v (h.mono λds Γ1 ⟨h1,h2,h3,h4⟩=>⟨h1,h2,λx hx cs hc=>?_,h4⟩);obtain⟨a,rfl⟩:=List.length_eq_one_iff.mp hc;refine(h3 x hx a).mono λ_ Γ2 h=>h.mono λb aI ⟨h5,h6⟩=>⟨h5,?_⟩
 cases b with
 | true=>simp only[if_true] at h6 ⊢;exact h6.mono λy aJ ⟨h7,a',h8⟩=>⟨h7,[a'],rfl,h8⟩
 | false=>simp only[TQ,if_false] at h6 ⊢;obtain⟨a',h8⟩:=h6;exact⟨[a'],rfl,h8⟩
theorem FU{α:Type}{ts:M Bool}(xs:List α)(f:α->D)(p:α->Bool)(v:α->D)(h:wp it Γ λds Γ1=>ds=xs.map f/\xs.length<=1000000/\(∀x∈xs,∀a b,wp (az (f x)) (a::b::Γ1) λ_ Γ2=>wp ts Γ2 λb aI=>b=p x/\(if b=true then wp el aI λy aJ=>y=v x/\∃a' b',aJ=a'::b'::Γ1 else ∃a' b',aI=a'::b'::Γ1)) ∧
   QL ((xs.filter p).map v) Γ1):wp (compO 2 it az ts el) Γ QL:=by
 refine DS xs f p v (h.mono λds Γ1 ⟨h1,h2,h3,h4⟩=>⟨h1,h2,λx hx cs hc=>?_,h4⟩)
 obtain⟨a,b,rfl⟩:∃a b,cs=[a,b]:=by
  match cs,hc with
  | [a,b],_=>exact⟨a,b,rfl⟩
 refine(h3 x hx a b).mono λ_ Γ2 h=>h.mono λb aI ⟨h5,h6⟩=>⟨h5,?_⟩
 cases b with
 | true=>simp only[if_true] at h6 ⊢;exact h6.mono λy aJ ⟨h7,a',b',h8⟩=>⟨h7,[a',b'],rfl,h8⟩
 | false=>simp only[TQ,if_false] at h6 ⊢;obtain⟨a',b',h8⟩:=h6;exact⟨[a',b'],rfl,h8⟩
theorem vS{body:M Fl}(hl:ds.length=ar)(h:∀K:Fl->Gm->Prop,(∀ae,(∃l,fin (ds.map .val) ae=some l)->K (.rt (.val d)) ae)->(∀ae,d=.non->(∃l,fin (ds.map .val) ae=some l)->K .nx ae)->wp body ((ds.map .val).map some++QY (n - ds.length) none) K):cvF (fnD n ar body) ds=some d:=by
 refine Gi (vG (by simpa using hl) λK k1 k2=>?_);have:=h K (λae ⟨l,e⟩=>k1 _ _ ⟨l,e,rfl⟩) (λae hd ⟨l,e⟩=>k2 _ ⟨l,e,by rw[hd]⟩);simpa using this
theorem FD{α:Type}{f:α->Bool}{xs:List α}:blsD (xs.map λx=>.bl (f x))=some (xs.map f):=by
 induction xs with
 | nil=>rfl
 | cons x xs ih=>simp only[Q7,blsD,ih]
theorem GA{α:Type}{f:α->Bool}{xs:List α}:allF [.lst (xs.map λx=>.bl (f x))]=some (.bl (xs.all f)):=by
 unfold allF;simp only[FD];simp[comp_def]
theorem Kx{α:Type}{f:α->Bool}{xs:List α}:anyF [.lst (xs.map λx=>.bl (f x))]=some (.bl (xs.any f)):=by
 unfold anyF;simp only[FD];simp[comp_def]
theorem BP{α Y:Type}{f:α->D}{g:Y->D}{xs:List α}{ys:List Y}:pairsD (xs.map f) (ys.map g)=(xs.zip ys).map λq=>.tup [f q.1,g q.2]:=by
 unfold pairsD
 induction xs generalizing ys with
 | nil=>rfl
 | cons x xs ih =>
  cases ys with
  | nil=>rfl
  | cons y ys=>simp only[Q7,Sy,ih]
end
section
variable{α:Type}{Q:α->Gm->Prop}{QD:D->Gm->Prop}{QL:List D->Gm->Prop}{i j:Int}
theorem Pd{xs:List D}(h:SetOk xs)(sC:(dd xs).length<=18)(k:xs.all fstI=true\/xs.all fstT=true):setF [.lst xs]=some (sortD (dd xs)):=by
 unfold setF;exact if_pos ⟨⟨h.1,h.2.1,h.2.2.1,h.2.2.2.1,sC⟩,k⟩
theorem IX{xs:List D}(h:SortOk xs):sortF [.lst xs]=some (sortD xs):=by
 unfold sortF;exact if_pos h
theorem Hk(ds:List D):(dd ds).length<=ds.length:=by
 have bp:∀(ds af:List D),(ds.foldl dstep af).length<=af.length+ds.length:=by
  intro ds
  induction ds with
  | nil=>exact λaf=>x_ _
  | cons c ds ih =>
   intro af;have:=ih (dstep af c)
   have:(dstep af c).length<=af.length+1:=by
    unfold dstep;split
    ·omega
    ·simp
   rw[Vi,Rp];omega
 have:=bp ds [];simpa[dd] using this
end
end DL
namespace DL
theorem FM{α:Type}:∀(l m:List α),l.Nodup->(∀x∈l,x∈m)->l.length<=m.length
 | [],m,_,_=>Rw _
 | x::l,m,nd,h=>by
  obtain⟨a,b,rfl⟩:=Wd (h x v_);rw[Tz] at nd
  have:=FM l (a++b) nd.2 (λy hy=>by
   have:=h y (s_ _ hy)
   rcases Q8.mp this with z | z
   ·exact(Rl _ z)
   ·rcases A_.mp z with z | z
    ·subst z;exact absurd hy nd.1
    ·exact(Q1 _ z))
  simp at this ⊢;omega
theorem Kt{body:M Fl}{os:List D}(hl:ds.length=ar)(h:∀K:Fl->Gm->Prop,(∀ae,(∃l,fin (ds.map .val) ae=some l)->K (.rt (.own os)) ae)->wp body ((ds.map .val).map some++QY (n - ds.length) none) K):coF (fnD n ar body) ds=some os:=by
 have w:wpF (fnD n ar body) (ds.map .val) λr _=>r=.own os:=vG (by simpa using hl) λK k1 _=>by
  have:=h K (λae ⟨l,e⟩=>k1 _ _ ⟨l,e,rfl⟩);simpa using this
 obtain⟨r,aZ,e,rfl⟩:=w;unfold coF;rw[e]
section
variable{QS:Fl->Gm->Prop}{QL:List D->Gm->Prop}
@[simp ↓] theorem PH{j:Nat}:wp (froS j) Γ QL↔match Γ[j]? with
  | some (some (.fro ds))=>QL ds Γ
  | _=>False:=by
 unfold wp froS
 rcases e:Γ[j]? with _ | _ | r
 ·simp
 ·simp
 ·cases r<;>simp<;>exact⟨λ⟨_,_,⟨h1,h2⟩,q⟩=>by subst h1;subst h2;exact q,λq=>⟨_,_,⟨rfl,rfl⟩,q⟩⟩
@[simp ↓] theorem QF{i:Nat}{g:M (List D)}:wp (setY i g) Γ QS↔wp g Γ λd Γ1=>i < Γ1.length/\QS .nx (Γ1.set i (some (.fro d))):=by simp[setY]
@[simp ↓] theorem PF{i j:Nat}:wp (cpS i j) Γ QS↔wp (froS j) Γ λd Γ1=>i < Γ1.length/\QS .nx (Γ1.set i (some (.fro d))):=by simp only[cpS,vh,Ky,w8]
@[simp ↓] theorem P7{j:Nat}:wp (retY j) Γ QS↔wp (froS j) Γ λd Γ1=>QS (.rt (.fro d)) Γ1:=by simp only[retY,vh,w8]
theorem Ie{c:M Bool}{b:M Fl}(J:Nat->Gm->Prop)(hs:∀(m:Nat) (Γ:Gm),J m Γ->wp c Γ λk Γ1=>if k=true then ∃m',m=m'+1/\∀K:Fl->Gm->Prop,(∀Γ2,J m' Γ2->K .nx Γ2)->(∀Γ2,J m' Γ2->K .ct Γ2)->(∀Γ2,QS .nx Γ2->K .bk Γ2)->(∀r Γ2,QS (.rt r) Γ2->K (.rt r) Γ2)->wp b Γ1 K else QS .nx Γ1):
  ∀(n m:Nat) (Γ:Gm),m < n->J m Γ->wp (whlS n c b) Γ QS:=by
 intro n
 induction n with
 | zero=>intro m Γ h;omega
 | succ n ih =>
  intro m Γ h j;rw[whlS,vh];refine(hs m Γ j).mono λk Γ1 q=>?_
  cases k with
  | false=>rw[if_neg i_] at q ⊢;rw[w8];exact q
  | true =>
   rw[if_pos rfl] at q ⊢;obtain⟨m',rfl,q⟩:=q;rw[vh];refine q _ (λΓ2 j2=>?_) (λΓ2 j2=>?_) (λΓ2 z=>?_) λr Γ2 z=>?_
   ·exact ih m' Γ2 (by omega) j2
   ·exact ih m' Γ2 (by omega) j2
   ·exact(w8).mpr z
   ·exact(w8).mpr z
end
end DL
namespace Own
open PySem PySem.Spec PyProof.Rows L2 DL
noncomputable def Ce:M Fl:=
 (forS (itS (nm 0)) (tgN 1)
  (ifS (tst (op2 (eqF true) (fn1 lenF (consA (nm 1) nilA)) (fn1 lenF (consA (op2 ixF (nm 0) (ret (.int 0))) nilA))))
  (λ_=>none) (ret .nx)))
noncomputable def vz:List R->Option (R×List R):=fnD 2 1 Ce
noncomputable def Hb:M Nat:=
 (forX (itS (nm 0)) (tgN 1)
  (ifS (tst (op2 (eqF true) (fn1 lenF (consA (nm 1) nilA)) (fn1 lenF (consA (op2 ixF (nm 0) (ret (.int 0))) nilA))))
  (λ_=>none) (ret .nx)) (ifX (tst (op2 (eqF true) (fn1 lenF (consA (nm 1) nilA)) (fn1 lenF (consA (op2 ixF (nm 0) (ret (.int 0))) nilA))))
  (raX 0 (consA (ret (.str "letters and wishes of unlike many fields")) nilA)) nvX))
noncomputable def vH:List D->Option Nat:=fnE 2 1 Hb
noncomputable def AE:M Fl:=
 (seqS (dropS (fn1 (cvF vz) (consA (frz (lstA (consA (nm 0) (consA (nm 1) nilA)))) nilA)))
  (retS (fn1 allF (consA (frz (compO 2 (fn1 zipI (consA (nm 0) (consA (nm 1) nilA))) (tgTup 2 (tgCons (tgN 0) (tgCons (tgN 1) tgNil))) (ret true) (chn leI leI (op2 ixF (nm 0) (ret (.int 0))) (nm 1) (op2 ixF (nm 0) (ret (.int 1)))))) nilA))))
noncomputable def xJ:List R->Option (R×List R):=fnD 2 2 AE
noncomputable def DZ:M Nat:=
 (fnX vH (consA (frz (lstA (consA (nm 0) (consA (nm 1) nilA)))) nilA))
noncomputable def By:List D->Option Nat:=fnE 2 2 DZ
noncomputable def BL:M Fl:=
 (seqS (dropS (fn1 (cvF vz) (consA (frz (lstA (consA (nm 0) (consA (nm 1) nilA)))) nilA)))
  (retS (fn1 allF (consA (frz (compO 2 (fn1 zipI (consA (nm 0) (consA (nm 1) nilA))) (tgTup 2 (tgCons (tgN 0) (tgCons (tgN 1) tgNil))) (ret true) (andV (op2 leI (op2 ixF (nm 0) (ret (.int 0))) (op2 ixF (nm 1) (ret (.int 0)))) (op2 leI (op2 ixF (nm 1) (ret (.int 1))) (op2 ixF (nm 0) (ret (.int 1))))))) nilA))))
noncomputable def wR:List R->Option (R×List R):=fnD 2 2 BL
noncomputable def G3:M Nat:=
 (fnX vH (consA (frz (lstA (consA (nm 0) (consA (nm 1) nilA)))) nilA))
noncomputable def CD:List D->Option Nat:=fnE 2 2 G3
noncomputable def B9:M Fl:=
 (seqS (dropS (fn1 (cvF vz) (consA (frz (lstA (consA (nm 0) (consA (nm 1) nilA)))) nilA)))
  (seqS (setO 2 (lstA nilA))
  (seqS (forS (fn1 zipI (consA (nm 0) (consA (nm 1) nilA))) (tgTup 2 (tgCons (tgN 3) (tgCons (tgN 4) tgNil)))
  (seqS (setV 5 (fn1 maxF (consA (op2 ixF (nm 3) (ret (.int 0))) (consA (op2 ixF (nm 4) (ret (.int 0))) nilA))))
  (seqS (setV 6 (fn1 minF (consA (op2 ixF (nm 3) (ret (.int 1))) (consA (op2 ixF (nm 4) (ret (.int 1))) nilA))))
  (seqS (ifS (tst (op2 gtI (nm 5) (nm 6)))
  (retS (ret .non)) (ret .nx))
  (appS 2 (tupA (consA (nm 5) (consA (nm 6) nilA))))))))
  (retS (fn1 tupF (consA (nm 2) nilA))))))
noncomputable def xB:List R->Option (R×List R):=fnD 7 2 B9
noncomputable def Gq:M Nat:=
 (fnX vH (consA (frz (lstA (consA (nm 0) (consA (nm 1) nilA)))) nilA))
noncomputable def CI:List D->Option Nat:=fnE 7 2 Gq
noncomputable def CC:M Fl:=
 (retS (fn1 anyF (consA (frz (compO 1 (itS (nm 0)) (tgN 0) (ret true) (andV (op2 (eqF true) (nm 0) (nm 2)) (fn1 (cvF wR) (consA (nm 0) (consA (nm 2) nilA)))))) nilA)))
noncomputable def zW:List R->Option (R×List R):=fnD 2 2 CC
noncomputable def B4:M Fl:=
 (seqS (dropS (fn1 (cvF vz) (consA (nm 0) nilA)))
  (seqS (setV 1 (frz (fn1 setF (consA (nm 0) nilA))))
  (retO (compO 1 (itS (nm 1)) (tgN 0) (notT (tst (fn1 (cvF zW) (consA (nm 2) (consA (nm 0) nilA))))) (nm 0)))))
noncomputable def wP:List R->Option (R×List R):=fnD 2 1 B4
noncomputable def DO:M Nat:=
 (fnX vH (consA (nm 0) nilA))
noncomputable def wN:List D->Option Nat:=fnE 2 1 DO
noncomputable def Bx:M Fl:=
 (seqS (setO 2 (lstA nilA))
  (seqS (forS (fn1 enumI (consA (nm 1) nilA)) (tgTup 2 (tgCons (tgN 3) (tgCons (tgN 4) tgNil)))
  (forS (itS (nm 0)) (tgN 5)
  (seqS (ifS (tst (op2 ltI (op2 ixF (nm 4) (ret (.int 0))) (op2 ixF (op2 ixF (nm 5) (nm 3)) (ret (.int 0)))))
  (appS 2 (tupA (consA (nm 3) (consA (op2 subI (op2 ixF (op2 ixF (nm 5) (nm 3)) (ret (.int 0))) (ret (.int 1))) nilA)))) (ret .nx))
  (ifS (tst (op2 ltI (op2 ixF (op2 ixF (nm 5) (nm 3)) (ret (.int 1))) (op2 ixF (nm 4) (ret (.int 1)))))
  (appS 2 (tupA (consA (nm 3) (consA (op2 ixF (op2 ixF (nm 5) (nm 3)) (ret (.int 1))) nilA)))) (ret .nx)))))
  (retS (fn1 minlF (consA (nm 2) nilA)))))
noncomputable def Au:List R->Option (R×List R):=fnD 6 2 Bx
noncomputable def Cv:M Fl:=
 (seqS (setV 3 (sl3 slF (nm 0) (ret none) (prt (nm 1))))
  (seqS (setV 4 (sl3 slF (nm 0) (prt (op2 addF (nm 1) (ret (.int 1)))) (ret none)))
  (seqS (setV 5 (op2 ixF (op2 ixF (nm 0) (nm 1)) (ret (.int 0))))
  (seqS (setV 6 (op2 ixF (op2 ixF (nm 0) (nm 1)) (ret (.int 1))))
  (retS (tupA (consA (op2 addF (op2 addF (nm 3) (tupA (consA (tupA (consA (nm 5) (consA (nm 2) nilA))) nilA))) (nm 4)) (consA (op2 addF (op2 addF (nm 3) (tupA (consA (tupA (consA (op2 addF (nm 2) (ret (.int 1))) (consA (nm 6) nilA))) nilA))) (nm 4)) nilA))))))))
noncomputable def yL:List R->Option (R×List R):=fnD 7 3 Cv
noncomputable def za(g:List R->Option (R×List R)):M Fl:=
 (seqS (setV 3 (frz (compO 1 (itS (nm 1)) (tgN 0) (tst (op2 (isNF true) (fn1 (cvF xB) (consA (op2 ixF (nm 1) (nm 0)) (consA (nm 3) nilA))) (ret .non))) (nm 0))))
  (seqS (ifS (tst (op2 (eqF false) (fn1 lenF (consA (nm 3) nilA)) (ret (.int 0))))
  (retS (tupA (consA (ret (.str "out")) (consA (fn1 tupF (consA (frz (compO 1 (itS (nm 2)) (tgN 0) (ret true) (op2 ixF (nm 0) (ret (.int 0))))) nilA)) nilA)))) (ret .nx))
  (seqS (forS (itS (nm 3)) (tgN 4)
  (ifS (tst (fn1 (cvF wR) (consA (op2 ixF (nm 0) (nm 4)) (consA (nm 2) nilA))))
  (retS (tupA (consA (ret (.str "in")) (consA (tupA (consA (ret (.str "by")) (consA (nm 4) nilA))) nilA)))) (ret .nx)))
  (seqS (setV 5 (fn1 (cvF Au) (consA (frz (compO 1 (itS (nm 3)) (tgN 0) (ret true) (op2 ixF (nm 1) (nm 0)))) (consA (nm 2) nilA))))
  (seqS (setV 6 (fn1 (cvF yL) (consA (nm 2) (consA (op2 ixF (nm 5) (ret (.int 0))) (consA (op2 ixF (nm 5) (ret (.int 1))) nilA)))))
  (seqS (setV 7 (fn1 (cvF g) (consA (nm 0) (consA (nm 3) (consA (op2 ixF (nm 6) (ret (.int 0))) nilA)))))
  (seqS (ifS (tst (op2 (eqF false) (op2 ixF (nm 7) (ret (.int 0))) (ret (.str "out"))))
  (retS (nm 7)) (ret .nx))
  (seqS (setV 8 (fn1 (cvF g) (consA (nm 0) (consA (nm 3) (consA (op2 ixF (nm 6) (ret (.int 1))) nilA)))))
  (seqS (ifS (tst (op2 (eqF false) (op2 ixF (nm 8) (ret (.int 0))) (ret (.str "out"))))
  (retS (nm 8)) (ret .nx))
  (retS (tupA (consA (ret (.str "in")) (consA (tupA (consA (ret (.str "cut")) (consA (op2 ixF (nm 5) (ret (.int 0))) (consA (op2 ixF (nm 5) (ret (.int 1))) (consA (op2 ixF (nm 7) (ret (.int 1))) (consA (op2 ixF (nm 8) (ret (.int 1))) nilA)))))) nilA)))))))))))))
noncomputable def xn:Nat->List R->Option (R×List R)
 | 0=>λ_=>none
 | k+1=>fnD 9 3 (za (xn k))
noncomputable def Bl:M Fl:=
 (seqS (dropS (fn1 (cvF vz) (consA (frz (op2 catF (frz (lstA (consA (nm 1) nilA))) (nm 0))) nilA)))
  (retS (fn1 (cvF (xn 40)) (consA (nm 0) (consA (frz (fn1 rngI1 (consA (fn1 lenF (consA (nm 0) nilA)) nilA))) (consA (nm 1) nilA))))))
noncomputable def wa:List R->Option (R×List R):=fnD 2 2 Bl
noncomputable def Fh:M Nat:=
 (fnX vH (consA (frz (op2 catF (frz (lstA (consA (nm 1) nilA))) (nm 0))) nilA))
noncomputable def AR:List D->Option Nat:=fnE 2 2 Fh
noncomputable def xZ(g:List R->Option (R×List R)):M Fl:=
 (seqS (ifS (tst (op2 (eqF false) (op2 ixF (nm 2) (ret (.int 0))) (ret (.str "by"))))
  (retS (andV (chn leI ltI (ret (.int 0)) (op2 ixF (nm 2) (ret (.int 1))) (fn1 lenF (consA (nm 0) nilA))) (fn1 (cvF wR) (consA (op2 ixF (nm 0) (op2 ixF (nm 2) (ret (.int 1)))) (consA (nm 1) nilA))))) (ret .nx))
  (seqS (setV 3 (op2 ixF (nm 2) (ret (.int 1))))
  (seqS (setV 4 (op2 ixF (nm 2) (ret (.int 2))))
  (seqS (ifS (orT (notT (tst (chn leI ltI (ret (.int 0)) (nm 3) (fn1 lenF (consA (nm 1) nilA))))) (notT (tst (chn leI ltI (op2 ixF (op2 ixF (nm 1) (nm 3)) (ret (.int 0))) (nm 4) (op2 ixF (op2 ixF (nm 1) (nm 3)) (ret (.int 1)))))))
  (retS (ret (.bl false))) (ret .nx))
  (seqS (setV 5 (fn1 (cvF yL) (consA (nm 1) (consA (nm 3) (consA (nm 4) nilA)))))
  (retS (andV (fn1 (cvF g) (consA (nm 0) (consA (op2 ixF (nm 5) (ret (.int 0))) (consA (op2 ixF (nm 2) (ret (.int 3))) nilA)))) (fn1 (cvF g) (consA (nm 0) (consA (op2 ixF (nm 5) (ret (.int 1))) (consA (op2 ixF (nm 2) (ret (.int 4))) nilA)))))))))))
noncomputable def vE:Nat->List R->Option (R×List R)
 | 0=>λ_=>none
 | k+1=>fnD 6 3 (xZ (vE k))
noncomputable def Cf:M Fl:=
 (seqS (dropS (fn1 (cvF vz) (consA (frz (op2 catF (frz (lstA (consA (nm 1) nilA))) (nm 0))) nilA)))
  (retS (fn1 (cvF (vE 10)) (consA (nm 0) (consA (nm 1) (consA (nm 2) nilA))))))
noncomputable def yw:List R->Option (R×List R):=fnD 3 3 Cf
noncomputable def Fu:M Nat:=
 (fnX vH (consA (frz (op2 catF (frz (lstA (consA (nm 1) nilA))) (nm 0))) nilA))
noncomputable def Bs:List D->Option Nat:=fnE 3 3 Fu
noncomputable def AA:M Fl:=
 (seqS (setY 1 (fn1 (coF wP) (consA (nm 0) nilA)))
  (seqS (cpS 2 1)
  (seqS (forS (itS (nm 1)) (tgN 3)
  (seqS (setY 4 (compO 1 (itS (nm 2)) (tgN 0) (tst (op2 (eqF true) (nm 0) (nm 4))) (nm 0)))
  (ifS (tst (op2 (eqF false) (op2 ixF (fn1 (cvF wa) (consA (nm 4) (consA (nm 3) nilA))) (ret (.int 0))) (ret (.str "in"))))
  (cpS 2 4) (ret .nx))))
  (retY 2))))
noncomputable def xA:List R->Option (R×List R):=fnD 5 1 AA
noncomputable def Fn:M Nat:=
 (fnX wN (consA (nm 0) nilA))
noncomputable def A':List D->Option Nat:=fnE 5 1 Fn
noncomputable def Cm:M Fl:=
 (retO (compO 1 (itS (nm 0)) (tgN 0) (tst (fn1 (cvF xJ) (consA (nm 0) (consA (nm 2) nilA)))) (nm 0)))
noncomputable def vK:List R->Option (R×List R):=fnD 2 2 Cm
noncomputable def Cc:M Fl:=
 (seqS (setV 2 (frz (compO 1 (itS (nm 0)) (tgN 0) (ret true) (fn1 (cvF wa) (consA (nm 2) (consA (nm 0) nilA))))))
  (seqS (setV 3 (frz (compO 1 (itS (nm 2)) (tgN 0) (tst (op2 (eqF false) (op2 ixF (nm 0) (ret (.int 0))) (ret (.str "out")))) (op2 ixF (nm 0) (ret (.int 1))))))
  (retS (minLam 0 (fn1 lenF (consA (frz (fn1 (coF vK) (consA (nm 1) (consA (nm 0) nilA)))) nilA)) (nm 3)))))
noncomputable def xT:List R->Option (R×List R):=fnD 4 2 Cc
noncomputable def yY(g:List R->Option (R×List R)):M Fl:=
 (seqS (setV 3 (fn1 (cvF xT) (consA (nm 0) (consA (nm 1) nilA))))
  (seqS (ifS (tst (op2 (isNF false) (nm 3) (ret .non)))
  (retS (tupA (consA (ret (.str "all")) (consA (frz (fn1 sortF (consA (nm 1) nilA))) nilA)))) (ret .nx))
  (seqS (ifS (tst (op2 (eqF false) (nm 2) (ret (.int 0))))
  (retS (tupA (consA (ret (.str "left")) (consA (nm 3) nilA)))) (ret .nx))
  (seqS (setO 4 (lstA nilA))
  (seqS (forS (itS (frz (fn1 (coF vK) (consA (nm 0) (consA (nm 3) nilA))))) (tgN 5)
  (seqS (setV 6 (fn1 (cvF g) (consA (nm 0) (consA (frz (op2 catF (nm 1) (frz (lstA (consA (nm 5) nilA))))) (consA (op2 subI (nm 2) (ret (.int 1))) nilA)))))
  (seqS (ifS (tst (op2 (eqF false) (op2 ixF (nm 6) (ret (.int 0))) (ret (.str "all"))))
  (retS (nm 6)) (ret .nx))
  (appS 4 (nm 6)))))
  (retS (tupA (consA (ret (.str "meet")) (consA (nm 3) (consA (nm 4) nilA))))))))))
noncomputable def v4:Nat->List R->Option (R×List R)
 | 0=>λ_=>none
 | k+1=>fnD 7 3 (yY (v4 k))
noncomputable def AZ:M Fl:=
 (seqS (setV 1 (frz (fn1 (coF wP) (consA (nm 0) nilA))))
  (seqS (setV 2 (ret (.int 0)))
  (seqS (setV 3 (ret .non))
  (seqS (setV 4 (fn1 (cvF (v4 10)) (consA (nm 1) (consA (frz (lstA nilA)) (consA (nm 2) nilA)))))
  (seqS (whlS 100 (tst (op2 (eqF true) (op2 ixF (nm 4) (ret (.int 0))) (ret (.str "all"))))
  (seqS (setV 3 (nm 4))
  (seqS (setV 2 (op2 addF (nm 2) (ret (.int 1))))
  (setV 4 (fn1 (cvF (v4 10)) (consA (nm 1) (consA (frz (lstA nilA)) (consA (nm 2) nilA))))))))
  (retS (tupA (consA (nm 2) (consA (op2 ixF (nm 4) (ret (.int 1))) (consA (nm 3) nilA))))))))))
noncomputable def xK:List R->Option (R×List R):=fnD 5 1 AZ
noncomputable def Fa:M Nat:=
 (fnX wN (consA (nm 0) nilA))
noncomputable def Bh:List D->Option Nat:=fnE 5 1 Fa
noncomputable def Bv(g:List R->Option (R×List R)):M Fl:=
 (seqS (setO 1 (lstA (consA (op2 ixF (nm 0) (ret (.int 1))) nilA)))
  (seqS (ifS (tst (op2 (eqF false) (op2 ixF (nm 0) (ret (.int 0))) (ret (.str "meet"))))
  (forS (itS (op2 ixF (nm 0) (ret (.int 2)))) (tgN 2)
  (extS 1 (fn1 (cvF g) (consA (nm 2) nilA)))) (ret .nx))
  (retS (nm 1))))
noncomputable def wy:Nat->List R->Option (R×List R)
 | 0=>λ_=>none
 | k+1=>fnD 3 1 (Bv (wy k))
noncomputable def Ah(g:List R->Option (R×List R)):M Fl:=
 (seqS (setV 4 (op2 ixF (nm 3) (ret (.int 1))))
  (seqS (setV 5 (frz (fn1 (coF vK) (consA (nm 0) (consA (nm 4) nilA)))))
  (seqS (ifS (orT (tst (op2 (eqF false) (fn1 lenF (consA (nm 5) nilA)) (ret (.int 0)))) (tst (op2 gtI (fn1 lenF (consA (frz (fn1 (coF vK) (consA (nm 1) (consA (nm 4) nilA)))) nilA)) (ret (.int 0)))))
  (retS (ret (.bl false))) (ret .nx))
  (seqS (ifS (tst (op2 (eqF false) (op2 ixF (nm 3) (ret (.int 0))) (ret (.str "left"))))
  (retS (op2 (eqF false) (nm 2) (ret (.int 0)))) (ret .nx))
  (seqS (ifS (orT (tst (op2 (eqF false) (nm 2) (ret (.int 0)))) (tst (op2 (eqF true) (fn1 lenF (consA (op2 ixF (nm 3) (ret (.int 2))) nilA)) (fn1 lenF (consA (nm 5) nilA)))))
  (retS (ret (.bl false))) (ret .nx))
  (retS (fn1 allF (consA (frz (compO 2 (fn1 zipI (consA (nm 5) (consA (op2 ixF (nm 3) (ret (.int 2))) nilA))) (tgTup 2 (tgCons (tgN 0) (tgCons (tgN 1) tgNil))) (ret true) (fn1 (cvF g) (consA (nm 2) (consA (frz (op2 catF (nm 3) (frz (lstA (consA (nm 0) nilA))))) (consA (op2 subI (nm 4) (ret (.int 1))) (consA (nm 1) nilA))))))) nilA))))))))
noncomputable def xI:Nat->List R->Option (R×List R)
 | 0=>λ_=>none
 | k+1=>fnD 6 4 (Ah (xI k))
noncomputable def Bw:M Fl:=
 (seqS (setV 2 (op2 ixF (nm 1) (ret (.int 0))))
  (seqS (setV 3 (op2 ixF (nm 1) (ret (.int 1))))
  (seqS (dropS (fn1 (cvF vz) (consA (frz (op2 catF (frz (op2 catF (nm 0) (nm 3))) (fn1 (cvF (wy 10)) (consA (op2 ixF (nm 1) (ret (.int 2))) nilA)))) nilA)))
  (seqS (setV 4 (frz (fn1 (coF wP) (consA (nm 0) nilA))))
  (seqS (ifS (orT (tst (op2 (eqF true) (fn1 lenF (consA (nm 3) nilA)) (nm 2))) (tst (op2 (eqF true) (nm 3) (frz (compO 1 (itS (nm 4)) (tgN 0) (tst (op2 (inF false) (nm 0) (nm 4))) (nm 0))))))
  (retS (ret (.bl false))) (ret .nx))
  (retS (andV (op2 (isNF false) (fn1 (cvF xT) (consA (nm 4) (consA (nm 3) nilA))) (ret .non)) (fn1 (cvF (xI 10)) (consA (nm 4) (consA (frz (lstA nilA)) (consA (op2 subI (nm 2) (ret (.int 1))) (consA (op2 ixF (nm 1) (ret (.int 2))) nilA))))))))))))
noncomputable def Ab:List R->Option (R×List R):=fnD 5 2 Bw
noncomputable def Fb:M Nat:=
 (thenX (setV 2 (op2 ixF (nm 1) (ret (.int 0))))
  (thenX (setV 3 (op2 ixF (nm 1) (ret (.int 1))))
  (orX (fnX vH (consA (frz (op2 catF (frz (op2 catF (nm 0) (nm 3))) (fn1 (cvF (wy 10)) (consA (op2 ixF (nm 1) (ret (.int 2))) nilA)))) nilA)) (thenX (dropS (fn1 (cvF vz) (consA (frz (op2 catF (frz (op2 catF (nm 0) (nm 3))) (fn1 (cvF (wy 10)) (consA (op2 ixF (nm 1) (ret (.int 2))) nilA)))) nilA)))
  (fnX wN (consA (nm 0) nilA))))))
noncomputable def ze:List D->Option Nat:=fnE 5 2 Fb
noncomputable def Bu:M Fl:=
 (seqS (ifS (tst (op2 geI (nm 0) (op2 powI (ret (.int 10)) (ret (.int 18)))))
  (retS (nm 0)) (ret .nx))
  (seqS (setV 2 (op2 modI (op2 addF (op2 addF (op2 mulI (op2 modI (nm 0) (ret (.int 998244353))) (ret (.int 40692))) (op2 mulI (nm 1) (ret (.int 69621)))) (ret (.int 1009))) (ret (.int 2147483399))))
  (seqS (setV 3 (op2 modI (op2 addF (op2 addF (op2 mulI (nm 2) (nm 2)) (op2 mulI (nm 1) (ret (.int 48271)))) (op2 modI (nm 0) (ret (.int 131071)))) (ret (.int 2147483647))))
  (seqS (setV 4 (op2 modI (op2 addF (op2 addF (op2 mulI (nm 3) (nm 3)) (op2 mulI (nm 2) (ret (.int 17)))) (ret (.int 3))) (ret (.int 2147483629))))
  (retS (op2 addF (op2 mulI (op2 addF (op2 mulI (nm 2) (ret (.int 2147483647))) (nm 3)) (ret (.int 2147483629))) (nm 4)))))))
noncomputable def yA:List R->Option (R×List R):=fnD 5 2 Bu
noncomputable def Bd:M Fl:=
 (seqS (setO 1 (fn1 lstF (consA (sl3 slF (nm 0) (ret none) (prt (ret (.int 12)))) nilA)))
  (seqS (forS (fn1 enumI (consA (sl3 slF (nm 0) (prt (ret (.int 12))) (prt (ret (.int 63)))) nilA)) (tgTup 2 (tgCons (tgN 2) (tgCons (tgN 3) tgNil)))
  (stS 1 (op2 modI (nm 2) (ret (.int 12))) (op2 addF (atN 1 (op2 modI (nm 2) (ret (.int 12)))) (nm 3))))
  (retO (lstA (consA (nm 1) (consA (ret (.int 0)) (consA (ret (.int 0)) nilA)))))))
noncomputable def yK:List R->Option (R×List R):=fnD 4 1 Bd
noncomputable def AL:M Fl:=
 (seqS (ifS (tst (op2 ltI (atN 0 (ret (.int 2))) (nm 1)))
  (seqS (setV 2 (atN 0 (ret (.int 1))))
  (seqS (setV 3 (op2 mulI (ret (.int 11)) (nm 2)))
  (seqS (ifS (tst (op2 ltI (nm 2) (fn1 lenF (consA (atN 0 (ret (.int 0))) nilA))))
  (setV 3 (op2 ixF (atN 0 (ret (.int 0))) (nm 2))) (ifS (tst (op2 (eqF true) (atN 0 (ret (.int 0))) (frz (lstA nilA))))
  (setV 3 (op2 modI (op2 ixF (atN 0 (ret (.int 0))) (op2 modI (op2 addF (op2 mulI (nm 2) (ret (.int 7))) (ret (.int 1))) (fn1 lenF (consA (atN 0 (ret (.int 0))) nilA)))) (op2 addF (op2 powI (ret (.int 10)) (ret (.int 17))) (op2 mulI (ret (.int 3)) (nm 2))))) (ret .nx)))
  (seqS (stS 0 (ret (.int 1)) (op2 addF (nm 2) (ret (.int 1))))
  (stS 0 (ret (.int 2)) (fn1 (cvF yA) (consA (nm 3) (consA (nm 2) nilA)))))))) (ret .nx))
  (seqS (setV 4 (op2 modI (atN 0 (ret (.int 2))) (nm 1)))
  (seqS (stS 0 (ret (.int 2)) (op2 divI (atN 0 (ret (.int 2))) (nm 1)))
  (retS (nm 4)))))
noncomputable def vg:List R->Option (R×List R):=fnD 5 2 AL
noncomputable def Ct:M Fl:=
 (seqS (setO 4 (lstA nilA))
  (seqS (forS (fn1 rngI1 (consA (nm 1) nilA)) (tgN 5)
  (seqS (setV 6 (op2 addF (nm 2) (cbV 0 vg (consA (nm 3) nilA))))
  (seqS (setV 7 (op2 addF (nm 2) (cbV 0 vg (consA (nm 3) nilA))))
  (appS 4 (tupA (consA (fn1 minF (consA (nm 6) (consA (nm 7) nilA))) (consA (fn1 maxF (consA (nm 6) (consA (nm 7) nilA))) nilA)))))))
  (retS (fn1 tupF (consA (nm 4) nilA)))))
noncomputable def xi:List R->Option (R×List R):=fnD 8 4 Ct
noncomputable def Bp:M Fl:=
 (seqS (setV 2 (cbV 0 vg (consA (fn1 lenF (consA (nm 1) nilA)) nilA)))
  (seqS (asgS (op2 ixF (nm 1) (nm 2)) (tgTup 2 (tgCons (tgN 3) (tgCons (tgN 4) tgNil))))
  (seqS (setV 5 (frz (lstA (consA (tupA (consA (fn1 maxF (consA (ret (.int 0)) (consA (op2 subI (nm 3) (ret (.int 1))) nilA))) (consA (nm 4) nilA))) (consA (tupA (consA (nm 3) (consA (fn1 minF (consA (ret (.int 9)) (consA (op2 addF (nm 4) (ret (.int 1))) nilA))) nilA))) (consA (tupA (consA (fn1 minF (consA (op2 addF (nm 3) (ret (.int 1))) (consA (nm 4) nilA))) (consA (nm 4) nilA))) (consA (tupA (consA (nm 3) (consA (fn1 maxF (consA (nm 3) (consA (op2 subI (nm 4) (ret (.int 1))) nilA))) nilA))) nilA)))))))
  (retS (op2 addF (op2 addF (sl3 slF (nm 1) (ret none) (prt (nm 2))) (tupA (consA (op2 ixF (nm 5) (cbV 0 vg (consA (ret (.int 4)) nilA))) nilA))) (sl3 slF (nm 1) (prt (op2 addF (nm 2) (ret (.int 1)))) (ret none)))))))
noncomputable def yU:List R->Option (R×List R):=fnD 6 2 Bp
noncomputable def CA:M Fl:=
 (seqS (setV 3 (fn1 minF (consA (op2 ixF (frz (lstA (consA (ret (.int 2)) (consA (ret (.int 3)) (consA (ret (.int 4)) (consA (ret (.int 10)) nilA)))))) (cbV 0 vg (consA (ret (.int 4)) nilA))) (consA (op2 ixF (frz (lstA (consA (ret (.int 10)) (consA (ret (.int 10)) (consA (ret (.int 10)) (consA (ret (.int 4)) nilA)))))) (nm 1)) nilA))))
  (seqS (setV 4 (cbV 0 vg (consA (op2 subI (ret (.int 11)) (nm 3)) nilA)))
  (seqS (setO 5 (lstA nilA))
  (seqS (forS (fn1 rngI1 (consA (cbV 0 vg (consA (op2 addF (nm 2) (ret (.int 1))) nilA)) nilA)) (tgN 6)
  (seqS (setV 7 (cbV 0 vg (consA (ret (.int 6)) nilA)))
  (seqS (setV 8 (cbV 0 xi (consA (nm 1) (consA (nm 4) (consA (nm 3) nilA)))))
  (seqS (ifS (andT (tst (op2 (eqF false) (nm 7) (ret (.int 0)))) (tst (cmpN true 5 (frz (lstA nilA)))))
  (setV 8 (atN 5 (cbV 0 vg (consA (lenN 5) nilA)))) (ret .nx))
  (seqS (ifS (andT (tst (op2 (eqF false) (nm 7) (ret (.int 1)))) (tst (cmpN true 5 (frz (lstA nilA)))))
  (setV 8 (cbV 0 yU (consA (atN 5 (cbV 0 vg (consA (lenN 5) nilA))) nilA))) (ret .nx))
  (appS 5 (nm 8)))))))
  (retS (nm 5))))))
noncomputable def zt:List R->Option (R×List R):=fnD 9 3 CA
noncomputable def G4:M Fl:=
 (seqS (setV 1 (frz (lstA (consA (un1 (isxF "NoKin") (nm 0)) (consA (un1 (isxF "NoHouse") (nm 0)) (consA (un1 (isxF "NoRoad") (nm 0)) nilA))))))
  (seqS (setV 1 (frz (op2 catF (nm 1) (frz (lstA (consA (un1 (isxF "Ring") (nm 0)) (consA (un1 (isxF "NoHold") (nm 0)) (consA (un1 (isxF "NoLetter") (nm 0)) nilA))))))))
  (seqS (setV 1 (frz (op2 catF (nm 1) (frz (lstA (consA (un1 (isxF "NoStep") (nm 0)) (consA (un1 (isxF "NoText") (nm 0)) (consA (un1 (isxF "NoRow") (nm 0)) nilA))))))))
  (seqS (setV 1 (frz (op2 catF (nm 1) (frz (lstA (consA (un1 (isxF "NoLog") (nm 0)) nilA))))))
  (seqS (ifS (orT (tst (op2 (eqF true) (mbV cbF 1 (consA (ret (.bl true)) nilA)) (ret (.int 1)))) (orT (notT (tst (un1 (isxF "RoofError") (nm 0)))) (notT (tst (un1 isvF (nm 0))))))
  (retS (ret (.str "odd"))) (ret .nx))
  (retS (op2 ixF (frz (lstA (consA (ret (.str "kin")) (consA (ret (.str "house")) (consA (ret (.str "road")) (consA (ret (.str "ring")) (consA (ret (.str "hold")) (consA (ret (.str "letter")) (consA (ret (.str "step")) (consA (ret (.str "text")) (consA (ret (.str "row")) (consA (ret (.str "log")) nilA)))))))))))) (mbV ibF 1 (consA (ret (.bl true)) nilA)))))))))
noncomputable def wz:List R->Option (R×List R):=fnD 2 1 G4
noncomputable def zU:M Fl:=
 (seqS (setV 5 (frz (lstA (consA (tupA (consA (ret (.str "by")) (consA (ret (.int 0)) nilA))) (consA (tupA (consA (ret (.str "by")) (consA (ret (.int 9)) nilA))) (consA (tupA (consA (ret (.str "cut")) (consA (ret (.int 0)) (consA (op2 ixF (op2 ixF (nm 2) (ret (.int 0))) (ret (.int 0))) (consA (tupA (consA (ret (.str "by")) (consA (ret (.int 0)) nilA))) (consA (tupA (consA (ret (.str "by")) (consA (ret (.int 0)) nilA))) nilA)))))) (consA (tupA (consA (ret (.str "cut")) (consA (ret (.int 7)) (consA (ret (.int 0)) (consA (tupA (consA (ret (.str "by")) (consA (un1 negI (ret (.int 1))) nilA))) (consA (tupA (consA (ret (.str "by")) (consA (ret (.int 0)) nilA))) nilA)))))) nilA)))))))
  (seqS (ifS (tst (op2 (eqF false) (nm 0) (ret (.int 0))))
  (retS (fn1 (cvF xJ) (consA (nm 2) (consA (nm 3) nilA)))) (ret .nx))
  (seqS (ifS (tst (op2 (eqF false) (nm 0) (ret (.int 1))))
  (retS (fn1 (cvF wR) (consA (op2 ixF (nm 1) (ret (.int 0))) (consA (nm 2) nilA)))) (ret .nx))
  (seqS (ifS (tst (op2 (eqF false) (nm 0) (ret (.int 2))))
  (retS (fn1 (cvF xB) (consA (nm 2) (consA (op2 ixF (nm 1) (un1 negI (ret (.int 1)))) nilA)))) (ret .nx))
  (seqS (ifS (tst (op2 (eqF false) (nm 0) (ret (.int 3))))
  (retS (fn1 (cvF wa) (consA (nm 1) (consA (nm 2) nilA)))) (ret .nx))
  (seqS (ifS (tst (op2 ltI (nm 0) (ret (.int 8))))
  (retS (fn1 (cvF yw) (consA (nm 1) (consA (nm 2) (consA (op2 ixF (nm 5) (op2 subI (nm 0) (ret (.int 4)))) nilA))))) (ret .nx))
  (seqS (ifS (tst (op2 (eqF false) (nm 0) (ret (.int 8))))
  (retS (frz (fn1 (coF wP) (consA (nm 1) nilA)))) (ret .nx))
  (seqS (ifS (tst (op2 (eqF false) (nm 0) (ret (.int 9))))
  (retS (frz (fn1 (coF xA) (consA (nm 1) nilA)))) (ret .nx))
  (seqS (ifS (tst (op2 (eqF false) (nm 0) (ret (.int 10))))
  (retS (fn1 (cvF xK) (consA (nm 1) nilA))) (ret .nx))
  (retS (fn1 (cvF Ab) (consA (nm 1) (consA (tupA (consA (op2 ixF (nm 4) (ret (.int 0))) (consA (op2 ixF (nm 4) (ret (.int 1))) (consA (tupA (consA (ret (.str "left")) (consA (nm 3) nilA))) nilA)))) nilA)))))))))))))
noncomputable def zD:List R->Option (R×List R):=fnD 6 5 zU
noncomputable def xp:M Nat:=
 (thenX (setV 5 (frz (lstA (consA (tupA (consA (ret (.str "by")) (consA (ret (.int 0)) nilA))) (consA (tupA (consA (ret (.str "by")) (consA (ret (.int 9)) nilA))) (consA (tupA (consA (ret (.str "cut")) (consA (ret (.int 0)) (consA (op2 ixF (op2 ixF (nm 2) (ret (.int 0))) (ret (.int 0))) (consA (tupA (consA (ret (.str "by")) (consA (ret (.int 0)) nilA))) (consA (tupA (consA (ret (.str "by")) (consA (ret (.int 0)) nilA))) nilA)))))) (consA (tupA (consA (ret (.str "cut")) (consA (ret (.int 7)) (consA (ret (.int 0)) (consA (tupA (consA (ret (.str "by")) (consA (un1 negI (ret (.int 1))) nilA))) (consA (tupA (consA (ret (.str "by")) (consA (ret (.int 0)) nilA))) nilA)))))) nilA)))))))
  (orX (ifX (tst (op2 (eqF false) (nm 0) (ret (.int 0))))
  (fnX By (consA (nm 2) (consA (nm 3) nilA))) nvX) (thenX (ifS (tst (op2 (eqF false) (nm 0) (ret (.int 0))))
  (retS (fn1 (cvF xJ) (consA (nm 2) (consA (nm 3) nilA)))) (ret .nx))
  (orX (ifX (tst (op2 (eqF false) (nm 0) (ret (.int 1))))
  (fnX CD (consA (op2 ixF (nm 1) (ret (.int 0))) (consA (nm 2) nilA))) nvX) (thenX (ifS (tst (op2 (eqF false) (nm 0) (ret (.int 1))))
  (retS (fn1 (cvF wR) (consA (op2 ixF (nm 1) (ret (.int 0))) (consA (nm 2) nilA)))) (ret .nx))
  (orX (ifX (tst (op2 (eqF false) (nm 0) (ret (.int 2))))
  (fnX CI (consA (nm 2) (consA (op2 ixF (nm 1) (un1 negI (ret (.int 1)))) nilA))) nvX) (thenX (ifS (tst (op2 (eqF false) (nm 0) (ret (.int 2))))
  (retS (fn1 (cvF xB) (consA (nm 2) (consA (op2 ixF (nm 1) (un1 negI (ret (.int 1)))) nilA)))) (ret .nx))
  (orX (ifX (tst (op2 (eqF false) (nm 0) (ret (.int 3))))
  (fnX AR (consA (nm 1) (consA (nm 2) nilA))) nvX) (thenX (ifS (tst (op2 (eqF false) (nm 0) (ret (.int 3))))
  (retS (fn1 (cvF wa) (consA (nm 1) (consA (nm 2) nilA)))) (ret .nx))
  (orX (ifX (tst (op2 ltI (nm 0) (ret (.int 8))))
  (fnX Bs (consA (nm 1) (consA (nm 2) (consA (op2 ixF (nm 5) (op2 subI (nm 0) (ret (.int 4)))) nilA)))) nvX) (thenX (ifS (tst (op2 ltI (nm 0) (ret (.int 8))))
  (retS (fn1 (cvF yw) (consA (nm 1) (consA (nm 2) (consA (op2 ixF (nm 5) (op2 subI (nm 0) (ret (.int 4)))) nilA))))) (ret .nx))
  (orX (ifX (tst (op2 (eqF false) (nm 0) (ret (.int 8))))
  (fnX wN (consA (nm 1) nilA)) nvX) (thenX (ifS (tst (op2 (eqF false) (nm 0) (ret (.int 8))))
  (retS (frz (fn1 (coF wP) (consA (nm 1) nilA)))) (ret .nx))
  (orX (ifX (tst (op2 (eqF false) (nm 0) (ret (.int 9))))
  (fnX A' (consA (nm 1) nilA)) nvX) (thenX (ifS (tst (op2 (eqF false) (nm 0) (ret (.int 9))))
  (retS (frz (fn1 (coF xA) (consA (nm 1) nilA)))) (ret .nx))
  (orX (ifX (tst (op2 (eqF false) (nm 0) (ret (.int 10))))
  (fnX Bh (consA (nm 1) nilA)) nvX) (thenX (ifS (tst (op2 (eqF false) (nm 0) (ret (.int 10))))
  (retS (fn1 (cvF xK) (consA (nm 1) nilA))) (ret .nx))
  (fnX ze (consA (nm 1) (consA (tupA (consA (op2 ixF (nm 4) (ret (.int 0))) (consA (op2 ixF (nm 4) (ret (.int 1))) (consA (tupA (consA (ret (.str "left")) (consA (nm 3) nilA))) nilA)))) nilA))))))))))))))))))))
noncomputable def y9:List D->Option Nat:=fnE 6 5 xp
noncomputable def AY:M Fl:=
 (seqS (setV 5 (ret .non))
  (seqS (setV 6 (frz (fn1 lstF (consA (nm 1) nilA))))
  (seqS (setV 7 (frz (fn1 lstF (consA (op2 ixF (nm 4) (ret (.int 1))) nilA))))
  (seqS (tryE (dropS (fn1 (cvF zD) (consA (nm 0) (consA (nm 6) (consA (nm 2) (consA (nm 3) (consA (tupA (consA (op2 ixF (nm 4) (ret (.int 0))) (consA (nm 7) nilA))) nilA))))))) (fnX y9 (consA (nm 0) (consA (nm 6) (consA (nm 2) (consA (nm 3) (consA (tupA (consA (op2 ixF (nm 4) (ret (.int 0))) (consA (nm 7) nilA))) nilA)))))) 8 5)
  (seqS (ifS (orT (tst (op2 (eqF true) (nm 6) (nm 1))) (tst (op2 (eqF true) (nm 7) (op2 ixF (nm 4) (ret (.int 1))))))
  (retS (ret (.str "odd"))) (ret .nx))
  (retS (ifV (tst (op2 (isNF false) (nm 5) (ret .non))) (ret (.str "told")) (fn1 (cvF wz) (consA (nm 5) nilA)))))))))
noncomputable def yi:List R->Option (R×List R):=fnD 9 5 AY
noncomputable def B3:M Fl:=
 (seqS (setV 5 (nm 1))
  (seqS (ifS (tst (op2 (eqF false) (nm 0) (ret (.int 0))))
  (setV 5 (frz (lstA (consA (nm 2) (consA (nm 3) nilA))))) (ifS (tst (op2 (eqF false) (nm 0) (ret (.int 1))))
  (setV 5 (frz (lstA (consA (op2 ixF (nm 1) (ret (.int 0))) (consA (nm 2) nilA))))) (ifS (tst (op2 (eqF false) (nm 0) (ret (.int 2))))
  (setV 5 (frz (lstA (consA (nm 2) (consA (op2 ixF (nm 1) (un1 negI (ret (.int 1)))) nilA))))) (ifS (tst (op2 ltI (nm 0) (ret (.int 8))))
  (setV 5 (frz (op2 catF (nm 1) (frz (lstA (consA (nm 2) nilA)))))) (ifS (tst (op2 (eqF false) (nm 0) (ret (.int 11))))
  (setV 5 (frz (op2 catF (nm 1) (op2 ixF (nm 4) (ret (.int 1)))))) (ret .nx))))))
  (seqS (setV 6 (frz (compO 1 (itS (nm 5)) (tgN 0) (ret true) (fn1 lenF (consA (nm 0) nilA)))))
  (retS (ifV (tst (op2 (eqF false) (fn1 minNF (consA (nm 6) nilA)) (fn1 maxNF (consA (nm 6) nilA)))) (ret (.str "told")) (ret (.str "kin")))))))
noncomputable def yW:List R->Option (R×List R):=fnD 7 5 B3
noncomputable def Ch:M Fl:=
 (seqS (setV 3 (cbV 0 vg (consA (op2 addF (fn1 lenF (consA (nm 1) nilA)) (ret (.int 1))) nilA)))
  (retO (op2 catF (frz (op2 catF (sl3 slF (nm 1) (ret none) (prt (nm 3))) (frz (lstA (consA (nm 2) nilA))))) (sl3 slF (nm 1) (prt (nm 3)) (ret none)))))
noncomputable def xM:List R->Option (R×List R):=fnD 4 3 Ch
noncomputable def A1:M Fl:=
 (seqS (setV 1 (cbV 0 vg (consA (op2 powI (ret (.int 10)) (ret (.int 50))) nilA)))
  (seqS (setV 2 (op2 ixF (frz (lstA (consA (ret (.str "")) (consA (ret (.str "a")) (consA (op2 mulSF (ret (.str "a b")) (ret (.int 20))) nilA))))) (cbV 0 vg (consA (ret (.int 3)) nilA))))
  (seqS (setV 3 (frz (lstA (consA (mkE "NoKin" (consA (nm 2) nilA)) (consA (mkE "NoHouse" (consA (nm 2) nilA)) (consA (mkE "NoRoad" (consA (nm 2) nilA)) (consA (mkE "Ring" (consA (nm 2) nilA)) (consA (mkE "NoHold" (consA (nm 2) nilA)) (consA (mkE "NoLetter" (consA (nm 2) nilA)) (consA (mkE "NoStep" (consA (nm 2) nilA)) nilA))))))))))
  (seqS (setV 3 (frz (op2 catF (nm 3) (frz (lstA (consA (mkE "NoText" (consA (nm 2) nilA)) (consA (mkE "NoRow" (consA (nm 2) nilA)) (consA (un1 mkLF (nm 1)) nilA))))))))
  (seqS (setV 4 (frz (lstA (consA (ret (.str "kin")) (consA (ret (.str "house")) (consA (ret (.str "road")) (consA (ret (.str "ring")) (consA (ret (.str "hold")) (consA (ret (.str "letter")) (consA (ret (.str "step")) (consA (ret (.str "text")) (consA (ret (.str "row")) (consA (ret (.str "log")) nilA)))))))))))))
  (retS (andV (op2 (eqF false) (frz (compO 1 (itS (nm 3)) (tgN 0) (ret true) (fn1 (cvF wz) (consA (nm 0) nilA)))) (nm 4)) (op2 (eqF false) (un1 numF (op2 ixF (nm 3) (ret (.int 9)))) (nm 1)))))))))
noncomputable def yZ:List R->Option (R×List R):=fnD 5 1 A1
noncomputable def Ca:M Fl:=
 (seqS (setO 1 (fn1 (coF yK) (consA (nm 0) nilA)))
  (seqS (forS (fn1 rngI1 (consA (ret (.int 3)) nilA)) (tgN 2)
  (seqS (setV 3 (op2 addF (ret (.int 1)) (cbV 1 vg (consA (ret (.int 3)) nilA))))
  (seqS (setV 4 (op2 addF (ret (.int 1)) (op2 modI (op2 addF (nm 3) (cbV 1 vg (consA (ret (.int 2)) nilA))) (ret (.int 3)))))
  (seqS (setV 5 (cbV 1 xi (consA (nm 4) (consA (ret (.int 0)) (consA (ret (.int 10)) nilA)))))
  (seqS (setV 6 (frz (op2 catF (frz (lstA (consA (cbV 1 xi (consA (nm 3) (consA (ret (.int 0)) (consA (ret (.int 6)) nilA)))) nilA))) (cbV 1 zt (consA (nm 3) (consA (ret (.int 3)) nilA))))))
  (seqS (setV 7 (op2 ixF (frz (lstA (consA (cbV 1 xi (consA (nm 3) (consA (ret (.int 0)) (consA (ret (.int 10)) nilA)))) (consA (op2 ixF (nm 6) (ret (.int 0))) nilA)))) (cbV 1 vg (consA (ret (.int 2)) nilA))))
  (seqS (setV 8 (fn1 tupF (consA (frz (compO 1 (fn1 rngI1 (consA (nm 3) nilA)) (tgN 0) (ret true) (cbV 2 vg (consA (ret (.int 10)) nilA)))) nilA)))
  (seqS (setV 9 (tupA (consA (cbV 1 vg (consA (ret (.int 4)) nilA)) (consA (sl3 slF (nm 6) (ret none) (prt (cbV 1 vg (consA (ret (.int 3)) nilA)))) nilA))))
  (seqS (setV 10 (frz (lstA (consA (tupA (consA (nm 6) (consA (nm 7) (consA (nm 8) (consA (nm 9) nilA))))) (consA (tupA (consA (frz (cbO 1 xM (consA (nm 6) (consA (nm 5) nilA)))) (consA (nm 7) (consA (nm 8) (consA (nm 9) nilA))))) (consA (tupA (consA (nm 6) (consA (nm 5) (consA (nm 8) (consA (nm 9) nilA))))) nilA))))))
  (seqS (setV 11 (tupA (consA (op2 addF (op2 ixF (nm 9) (ret (.int 0))) (cbV 1 vg (consA (ret (.int 2)) nilA))) (consA (frz (cbO 1 xM (consA (op2 ixF (nm 9) (ret (.int 1))) (consA (nm 5) nilA)))) nilA))))
  (seqS (setV 10 (frz (op2 catF (nm 10) (frz (lstA (consA (tupA (consA (nm 6) (consA (nm 7) (consA (nm 8) (consA (nm 11) nilA))))) (consA (tupA (consA (frz (cbO 1 xM (consA (nm 6) (consA (nm 5) nilA)))) (consA (nm 5) (consA (nm 8) (consA (nm 11) nilA))))) nilA)))))))
  (seqS (forS (itS (nm 10)) (tgTup 4 (tgCons (tgN 12) (tgCons (tgN 13) (tgCons (tgN 14) (tgCons (tgN 15) tgNil)))))
  (forS (fn1 rngI1 (consA (ret (.int 12)) nilA)) (tgN 16)
  (ifS (tst (op2 (eqF true) (fn1 (cvF yi) (consA (nm 16) (consA (nm 12) (consA (nm 13) (consA (nm 14) (consA (nm 15) nilA)))))) (fn1 (cvF yW) (consA (nm 16) (consA (nm 12) (consA (nm 13) (consA (nm 14) (consA (nm 15) nilA))))))))
  (retS (ret (.bl false))) (ret .nx))))
  (ifS (tst (op2 (eqF true) (fn1 (cvF yi) (consA (ret (.int 0)) (consA (nm 6) (consA (nm 7) (consA (fn1 tupF (consA (frz (compO 1 (itS (nm 5)) (tgN 0) (ret true) (op2 ixF (nm 0) (ret (.int 0))))) nilA)) (consA (nm 9) nilA)))))) (ret (.str "kin"))))
  (retS (ret (.bl false))) (ret .nx))))))))))))))
  (retS (cbV 1 yZ nilA))))
noncomputable def wX:List R->Option (R×List R):=fnD 17 1 Ca
theorem nk(h:decide N.Nodup=true:=by kernel_rfl):N.Nodup:=of_decide_eq_true h
theorem en(i:Nat){B:BB}{x:Str}(hN:X.N[i]?=some x:=by rfl)(hv:visB X.env.scope x=true:=by rfl)(hd:(x == ("__debug__":Str))=false:=by decide)(aT:(x == ("__classdict__":Str))=false:=by decide):ED X B (.Name x pos) (nm i):=zg (pv i hN hv hd aT)
noncomputable def top(i:Nat):Rm:=PySem.Challenge.pw_roofpost_k06_unlike_fields_refused.main.body.getD i (.Pass ⟨0,0,0,0⟩)
noncomputable abbrev zu:Rm:=top 13
noncomputable abbrev zV:Rm:=top 14
noncomputable abbrev zk:Rm:=top 15
noncomputable abbrev zY:Rm:=top 16
noncomputable abbrev zC:Rm:=top 17
noncomputable abbrev CO:Rm:=top 18
noncomputable abbrev Aw:Rm:=top 20
noncomputable abbrev Ae:Rm:=top 21
noncomputable abbrev AH:Rm:=top 22
noncomputable abbrev Cw:Rm:=top 23
noncomputable abbrev zd:Rm:=top 24
noncomputable abbrev Ar:Rm:=top 25
noncomputable abbrev zO:Rm:=top 26
noncomputable abbrev zw:Rm:=top 28
noncomputable abbrev yX:Rm:=top 29
noncomputable abbrev Cr:Rm:=top 30
noncomputable abbrev Bj:Rm:=top 31
noncomputable abbrev zR:Rm:=top 32
noncomputable abbrev zh:Rm:=top 33
noncomputable abbrev Ac:Rm:=top 34
noncomputable abbrev Bf:Rm:=top 36
noncomputable abbrev B1:Rm:=top 37
noncomputable abbrev AT:Rm:=top 38
noncomputable abbrev A5:Rm:=top 39
noncomputable abbrev Bk:Rm:=top 40
noncomputable abbrev BF:Rm:=top 41
noncomputable abbrev Cq:Rm:=top 42
noncomputable abbrev yV:Rm:=top 43
noncomputable abbrev CJ:Rm:=top 44
noncomputable abbrev B2:Rm:=top 45
noncomputable abbrev AX:Rm:=top 46
noncomputable abbrev BC:Rm:=top 47
noncomputable abbrev Az:Rm:=top 48
structure CdX(P:u_)(w:C_)(K:PySem.W.Frag)(mg:Str->Option b_)(base:K_)(cl:Nat->g_)(k:Nat)(f:g_)(fd:R6)(ps:List Str)(gx:List D->Option Nat)(x:Str):Prop where
 G:FnOk P w K mg base (CXX P w) k f fd ps (spE K cl gx)
 b:Binds K fd ps []
 p:PySem.W.keepIn K (.ref f)=true
 m:mg x=some (.ref f)
theorem cqX{B:BB}{cl:Nat->g_}{es:List L_}{p:Pos}{k kr:Nat}{x:Str}{gx:List D->Option Nat}{t:M (List D)}(G:CdX X.prog X.w X.K X.mg X.base cl k f fd ps gx x)(hr:Room kr X.A)(ha:AD X B (e::es) t)(hk:k<=kr:=by decide)(hg:Gl X x:=by exact rfl)(bi:(x == ("__debug__":Str))=false:=by decide)(he:f_ (e::es) X.env=(false,eval e X.env)::f_ es X.env:=by rfl)(aB:(P_ pos (f_ es X.env)).any (·.1)=false:=by rfl):XD X B cl (.Call (.Name x p) (e::es) [] pos) (fnX gx t):=NV G.G (hr.mono hk) hg G.m G.p G.b ha bi he aB
structure Cd(P:u_)(w:C_)(K:PySem.W.Frag)(mg:Str->Option b_)(base:K_)(k:Nat)(f:g_)(fd:R6)(ps:List Str)(g:List R->Option (R×List R))(x:Str):Prop where
 G:FnOk P w K mg base CX0 k f fd ps (spD K g)
 b:Binds K fd ps []
 p:PySem.W.keepIn K (.ref f)=true
 m:mg x=some (.ref f)
abbrev vD(P w K mg base f fd):=Cd P w K mg base 2 f fd ["things"] vz "must_be_kin"
abbrev Cp(P w K mg base f fd):=Cd P w K mg base 3 f fd ["wish", "letter"] xJ "has_letter"
abbrev wY(P w K mg base f fd):=Cd P w K mg base 3 f fd ["one", "other"] wR "covers"
abbrev zN(P w K mg base f fd):=Cd P w K mg base 3 f fd ["one", "other"] xB "in_common"
abbrev wS(P w K mg base f fd):=Cd P w K mg base 5 f fd ["wishes"] wP "roof_of"
abbrev GU(P w K mg base f fd):=Cd P w K mg base 4 f fd ["wishes", "wish"] zW "is_under_another"
abbrev yt(P w K mg base f fd):=Cd P w K mg base 46 f fd ["wishes", "wish"] wa "covered"
abbrev DN(P w K mg base f fd):=Cd P w K mg base 45 f fd ["wishes", "numbers", "part"] (xn 40) "looked_through"
abbrev G7(P w K mg base f fd):=Cd P w K mg base 2 f fd ["wishes", "part"] Au "first_border"
abbrev zl(P w K mg base f fd):=Cd P w K mg base 2 f fd ["part", "field", "at"] yL "halves_of"
abbrev Gc(P w K mg base f fd):=Cd P w K mg base 16 f fd ["wishes", "wish", "tree"] yw "is_cuts"
abbrev ES(P w K mg base f fd):=Cd P w K mg base 15 f fd ["wishes", "part", "tree"] (vE 10) "is_right_for"
abbrev Dl(P w K mg base f fd):=Cd P w K mg base 47 f fd ["wishes"] xA "spare_of"
abbrev G6(P w K mg base f fd):=Cd P w K mg base 64 f fd ["wishes"] xK "fewest_of"
abbrev DG(P w K mg base f fd):=Cd P w K mg base 63 f fd ["roof", "chosen", "more"] (v4 10) "looked_for"
abbrev zK(P w K mg base f fd):=Cd P w K mg base 51 f fd ["roof", "chosen"] xT "letter_left"
abbrev yD(P w K mg base f fd):=Cd P w K mg base 4 f fd ["wishes", "letter"] vK "having"
abbrev E5(P w K mg base f fd):=Cd P w K mg base 52 f fd ["wishes", "thing"] Ab "is_fewest"
abbrev FV(P w K mg base f fd):=Cd P w K mg base 13 f fd ["tree"] (wy 10) "letters_in"
abbrev GN(P w K mg base f fd):=Cd P w K mg base 16 f fd ["roof", "chosen", "more", "tree"] (xI 10) "is_right_tree"
abbrev NO(P w K mg base f fd):=Cd P w K mg base 2 f fd ["cell", "at"] yA "_law_blend"
abbrev KY(P w K mg base f fd):=Cd P w K mg base 2 f fd ["script"] yK "_law_pot"
abbrev xS(P w K mg base f fd):=Cd P w K mg base 3 f fd ["pot", "upto"] vg "_law_pick"
abbrev FG(P w K mg base f fd):=Cd P w K mg base 4 f fd ["pot", "fields", "low", "top"] xi "_law_wish"
abbrev Iq(P w K mg base f fd):=Cd P w K mg base 5 f fd ["pot", "fields", "most"] zt "_law_wishes"
abbrev HW(P w K mg base f fd):=Cd P w K mg base 4 f fd ["pot", "wish"] yU "_law_nudged"
abbrev Ev(P w K mg base f fd):=Cd P w K mg base 2 f fd ["caught"] wz "_law_kind"
abbrev LX(P w K mg base f fd):=Cd P w K mg base 65 f fd ["at", "wishes", "one", "letter", "claim"] zD "_law_asked"
abbrev Jj(P w K mg base f fd):=Cd P w K mg base 66 f fd ["at", "wishes", "one", "letter", "claim"] yi "_law_told"
abbrev K9(P w K mg base f fd):=Cd P w K mg base 2 f fd ["at", "wishes", "one", "letter", "claim"] yW "_law_due"
abbrev HX(P w K mg base f fd):=Cd P w K mg base 4 f fd ["pot", "some", "odd"] xM "_law_put"
abbrev Nn(P w K mg base f fd):=Cd P w K mg base 5 f fd ["pot"] yZ "_law_made_right"
abbrev xf(P w K mg base cl f fd):=CdX P w K mg base cl 2 f fd ["things"] vH "must_be_kin"
abbrev Lz(P w K mg base cl f fd):=CdX P w K mg base cl 3 f fd ["wish", "letter"] By "has_letter"
abbrev IQ(P w K mg base cl f fd):=CdX P w K mg base cl 3 f fd ["one", "other"] CD "covers"
abbrev Kp(P w K mg base cl f fd):=CdX P w K mg base cl 3 f fd ["one", "other"] CI "in_common"
abbrev zo(P w K mg base cl f fd):=CdX P w K mg base cl 5 f fd ["wishes"] wN "roof_of"
abbrev Ng(P w K mg base cl f fd):=CdX P w K mg base cl 46 f fd ["wishes", "wish"] AR "covered"
abbrev Lg(P w K mg base cl f fd):=CdX P w K mg base cl 16 f fd ["wishes", "wish", "tree"] Bs "is_cuts"
abbrev Li(P w K mg base cl f fd):=CdX P w K mg base cl 47 f fd ["wishes"] A' "spare_of"
abbrev Hv(P w K mg base cl f fd):=CdX P w K mg base cl 64 f fd ["wishes"] Bh "fewest_of"
abbrev Lw(P w K mg base cl f fd):=CdX P w K mg base cl 52 f fd ["wishes", "thing"] ze "is_fewest"
abbrev JZ(P w K mg base cl f fd):=CdX P w K mg base cl 65 f fd ["at", "wishes", "one", "letter", "claim"] y9 "_law_asked"
noncomputable abbrev wu:Rm:=clsDef (top 11) 0
theorem fi{K:PySem.W.Frag}{sl:Array (Option b_)}{kV dc:b_}(n:PySem.W.nsIn K Q6 "NoLog"=some (some (.ref C)))(a:PySem.W.findIn K (.ref C) "__init__"=some (some (.ref f)))(l:K.lookup f=some ⟨oc,od,.func (Uc "__init__" "NoLog.__init__" (defArgs wu) (defBody wu) (defScope wu) .none kV dc pm an cd ct),sl⟩)(c:W_ K cd "NoLog.__init__"=true)(k:PySem.W.keepIn K (.ref f)=true):Fun K "__init__" "NoLog.__init__" wu f (Uc "__init__" "NoLog.__init__" (defArgs wu) (defBody wu) (defScope wu) .none kV dc pm an cd ct):=Gd l c k
structure LgOk(P:u_)(w:C_)(K:PySem.W.Frag)(mg:Str->Option b_)(base:K_)(f:g_)(fd:R6):Prop where
 L:XLog K f
 G:FnOk P w K mg base CX0 2 f fd ["self", "number"] (spI K)
 b:Binds K fd ["self", "number"] []
theorem Js{P:u_}{w:C_}{K:PySem.W.Frag}(F:Fun K "__init__" "NoLog.__init__" wu f fd)(L:XLog K f)(EX:Exs K mg):LgOk P w K mg base f fd:=⟨L,F.ok (k:=1) (N:=["self", "number"]) ⟨rfl,rfl,rfl,by decide +kernel,rfl,by decide +kernel,by decide +kernel⟩ (λvs H Q E h=>by obtain⟨_,_,rfl,_⟩:=h;rfl) (λak A outer s H vs Q E hr h=>by
  obtain⟨e,k,rfl,few,h1,q⟩:=h;refine⟨_,zx (ym (Mx L rfl (EX.m "RoofError" (by decide)) (vI (pv 0) (vI (JB (by decide) (pv 1)) wO)))) (B5 (IN L (pv 0) (pv 1))),?_⟩
  exact⟨_,rfl,_,rfl,k,rfl,few,e,_,rfl,h1,_,rfl,_,rfl,e,k,rfl,rfl,h1,q⟩),F.binds λ_ _ _ _ _ _ us hl=>match us,hl with | [_,_],_=>rfl⟩
section
variable{P:u_}{w:C_}{K:PySem.W.Frag}
theorem u9{x:Str}{st:Rm}{k:Nat}(F:Fun K x qual st f fd)(S:FnScope N ps (defScope st))(g:M Fl)(h:∀(ak:b_) (A:Rh) (outer:List Env) (s:c_) (H:Hp) (E:XK) (B:BB),Room k (A.deeper (SR qual (defScope st) s.heap.objs.size f ak))->SIs (cxOf CX0 P w K mg base N qual (defScope st) f ak A outer s H E).nox B (defBody st) g):FnOk P w K mg base CX0 (k+1) f fd ps (spD K (fnD N.length ps.length g)):=JA F S g λak A outer s H E B hr=>z8 (h ak A outer s H E B hr)
theorem vV{cl:Nat->g_}{x:Str}{st:Rm}{k:Nat}(F:Fun K x qual st f fd)(S:FnScope N ps (defScope st))(m:M Nat)(h:∀(ak:b_) (A:Rh) (outer:List Env) (s:c_) (H:Hp) (E:XK) (B:BB),Room k (A.deeper (SR qual (defScope st) s.heap.objs.size f ak))->XIs (cxOf (CXX P w) P w K mg base N qual (defScope st) f ak A outer s H E) B cl (defBody st) m):FnOk P w K mg base (CXX P w) (k+1) f fd ps (spE K cl (fnE N.length ps.length m)):=Kn F S m λak A outer s H E B hr=>Be (h ak A outer s H E B hr)
theorem G2:FnScope ["things", "thing"] ["things"] (defScope zu):=⟨rfl,rfl,rfl,by decide +kernel,rfl,by decide +kernel,by decide +kernel⟩
theorem J3(F:Fun K "must_be_kin" "must_be_kin" zu f fd)(EX:Exs K mg)(aj:mg "len"=none):FnOk P w K mg base CX0 2 f fd ["things"] (spD K vz):=
 u9 (k:=1) (N:=["things", "thing"]) F G2 Ce (λak A outer s H E B hr =>
  (uQ (vC UN rfl (vo (en 0)) (gd_n (i:=1) (m:=100) nk)
  (uQ (uW (vF hr (vt rfl aj (f' (en 1) nH rfl)) (vt rfl aj (f' (t5 (en 0) tx) nH rfl)))
  (uQ (uO Fs)) uY)))))
theorem Jq(F:Fun K "must_be_kin" "must_be_kin" zu f fd)(EX:Exs K mg)(aj:mg "len"=none):FnOk P w K mg base (CXX P w) 2 f fd ["things"] (spE K (clN K) vH):=
 vV (k:=1) (N:=["things", "thing"]) F G2 Hb (λak A outer s H E B hr =>
  (vL (vm (Lf rfl rfl rfl (λ_=>(vo (en 0))) (λ_=>(gd_n (i:=1) (m:=100) nk)) (λ_=>z8 (uQ (uW (vF hr (vt rfl aj (f' (en 1) nH rfl)) (vt rfl aj (f' (t5 (en 0) tx) nH rfl)))
  (uQ (uO Fs)) uY))) (λ_=>Be (vL (wv (vF hr (vt rfl aj (f' (en 1) nH rfl)) (vt rfl aj (f' (t5 (en 0) tx) nH rfl)))
  (vL (vm (KM rfl rfl (EX.m "NoKin" (by decide)) (EX.xc "NoKin" (by decide)) (f' va nH rfl)))) wo)))))))
theorem Et:FnScope ["wish", "letter"] ["wish", "letter"] (defScope zV):=⟨rfl,rfl,rfl,by decide +kernel,rfl,by decide +kernel,by decide +kernel⟩
theorem Je(F:Fun K "has_letter" "has_letter" zV f fd){ar' ap'}(aH:vD P w K mg base ar' ap')(aL:mg "zip"=none)(aW:mg "all"=none):FnOk P w K mg base CX0 3 f fd ["wish", "letter"] (spD K xJ):=
 u9 (k:=2) (N:=["wish", "letter"]) F Et AE (λak A outer s H E B hr =>
  (tL (uO (wn (uV aH.G (hr.mono (by decide)) rfl aH.m aH.p aH.b (f' (uR (uX (f' (en 0) (f' (en 1) nH rfl) rfl))) nH rfl))))
  (uQ (uO (uU (BY rfl rfl aW (f' (uR (vN (N':=["pair", "number", "-wish", "-letter"]) (m:=2) (CompScope.of (by kernel_rfl)) rfl (yS rfl aL (f' (en 0) (f' (en 1) nH rfl) rfl)) (λ_ _ _ _=>(wM (m:=2) rfl (vw (gd_n (i:=0) (m:=2) nk) (vw (gd_n (i:=1) (m:=2) nk) wG)))) (λ_ _ _ _=>vZ) (λ_ _ _ _=>(Jr (t5 (en 0) tx) (en 1) (t5 (en 0) tx))))) nH rfl)))))))
theorem HC(F:Fun K "has_letter" "has_letter" zV f fd){ar' ap'}(aH:vD P w K mg base ar' ap')(aL:mg "zip"=none)(aW:mg "all"=none){fx_must_be_kin fdx_must_be_kin}(ao:xf P w K mg base (clN K) fx_must_be_kin fdx_must_be_kin):FnOk P w K mg base (CXX P w) 3 f fd ["wish", "letter"] (spE K (clN K) By):=
 vV (k:=2) (N:=["wish", "letter"]) F Et DZ (λak A outer s H E B hr =>
  (wx (vm (wU (cqX ao hr (f' (uR (uX (f' (en 0) (f' (en 1) nH rfl) rfl))) nH rfl))))))
theorem He:FnScope ["one", "other"] ["one", "other"] (defScope zk):=⟨rfl,rfl,rfl,by decide +kernel,rfl,by decide +kernel,by decide +kernel⟩
theorem NZ(F:Fun K "covers" "covers" zk f fd){ar' ap'}(aH:vD P w K mg base ar' ap')(aL:mg "zip"=none)(aW:mg "all"=none):FnOk P w K mg base CX0 3 f fd ["one", "other"] (spD K wR):=
 u9 (k:=2) (N:=["one", "other"]) F He BL (λak A outer s H E B hr =>
  (tL (uO (wn (uV aH.G (hr.mono (by decide)) rfl aH.m aH.p aH.b (f' (uR (uX (f' (en 0) (f' (en 1) nH rfl) rfl))) nH rfl))))
  (uQ (uO (uU (BY rfl rfl aW (f' (uR (vN (N':=["wide", "pair", "-one", "-other"]) (m:=2) (CompScope.of (by kernel_rfl)) rfl (yS rfl aL (f' (en 0) (f' (en 1) nH rfl) rfl)) (λ_ _ _ _=>(wM (m:=2) rfl (vw (gd_n (i:=0) (m:=2) nk) (vw (gd_n (i:=1) (m:=2) nk) wG)))) (λ_ _ _ _=>vZ) (λ_ _ _ _=>(xC (Fx (t5 (en 0) tx) (t5 (en 1) tx)) (xQ (Fx (t5 (en 1) tx) (t5 (en 0) tx))))))) nH rfl)))))))
theorem Lj(F:Fun K "covers" "covers" zk f fd){ar' ap'}(aH:vD P w K mg base ar' ap')(aL:mg "zip"=none)(aW:mg "all"=none){fx_must_be_kin fdx_must_be_kin}(ao:xf P w K mg base (clN K) fx_must_be_kin fdx_must_be_kin):FnOk P w K mg base (CXX P w) 3 f fd ["one", "other"] (spE K (clN K) CD):=
 vV (k:=2) (N:=["one", "other"]) F He G3 (λak A outer s H E B hr =>
  (wx (vm (wU (cqX ao hr (f' (uR (uX (f' (en 0) (f' (en 1) nH rfl) rfl))) nH rfl))))))
theorem DD:FnScope ["one", "other", "shared", "pair", "twin", "low", "high"] ["one", "other"] (defScope zY):=⟨rfl,rfl,rfl,by decide +kernel,rfl,by decide +kernel,by decide +kernel⟩
theorem OW(F:Fun K "in_common" "in_common" zY f fd){ar' ap'}(aH:vD P w K mg base ar' ap')(aL:mg "zip"=none)(ba:mg "max"=none)(aG:mg "min"=none)(aE:mg "tuple"=none):FnOk P w K mg base CX0 3 f fd ["one", "other"] (spD K xB):=
 u9 (k:=2) (N:=["one", "other", "shared", "pair", "twin", "low", "high"]) F DD B9 (λak A outer s H E B hr =>
  (tL (uO (wn (uV aH.G (hr.mono (by decide)) rfl aH.m aH.p aH.b (f' (uR (uX (f' (en 0) (f' (en 1) nH rfl) rfl))) nH rfl))))
  (tL (uO (wQ (i:=2) nk (uX nH)))
  (tL (vC UN rfl (yS rfl aL (f' (en 0) (f' (en 1) nH rfl) rfl)) (wM (m:=100) rfl (vw (gd_n (i:=3) (m:=100) nk) (vw (gd_n (i:=4) (m:=100) nk) wG)))
  (tL (uT (i:=5) nk (zJ rfl rfl ba (f' (t5 (en 3) tx) (f' (t5 (en 4) tx) nH rfl) rfl)))
  (tL (uT (i:=6) nk (yu rfl rfl aG (f' (t5 (en 3) tx) (f' (t5 (en 4) tx) nH rfl) rfl)))
  (tL (uW (GC (en 5) (en 6))
  (uQ (uO (uU wf))) uY)
  (uQ (uO (xz (pv 2) (u4 (f' (en 5) (f' (en 6) nH rfl) rfl)))))))))
  (uQ (uO (uU (yP rfl aE (f' (en 2) nH rfl)))))))))
theorem K5(F:Fun K "in_common" "in_common" zY f fd){ar' ap'}(aH:vD P w K mg base ar' ap')(aL:mg "zip"=none)(ba:mg "max"=none)(aG:mg "min"=none)(aE:mg "tuple"=none){fx_must_be_kin fdx_must_be_kin}(ao:xf P w K mg base (clN K) fx_must_be_kin fdx_must_be_kin):FnOk P w K mg base (CXX P w) 3 f fd ["one", "other"] (spE K (clN K) CI):=
 vV (k:=2) (N:=["one", "other", "shared", "pair", "twin", "low", "high"]) F DD Gq (λak A outer s H E B hr =>
  (wx (vm (wU (cqX ao hr (f' (uR (uX (f' (en 0) (f' (en 1) nH rfl) rfl))) nH rfl))))))
theorem Ex:FnScope ["wishes", "unlike"] ["wishes"] (defScope zC):=⟨rfl,rfl,rfl,by decide +kernel,rfl,by decide +kernel,by decide +kernel⟩
theorem Ki(F:Fun K "roof_of" "roof_of" zC f fd){ar' ap'}(aH:vD P w K mg base ar' ap'){cM' cw'}(iZ:GU P w K mg base cM' cw')(aN:mg "sorted"=none)(dS:mg "set"=none):FnOk P w K mg base CX0 5 f fd ["wishes"] (spD K wP):=
 u9 (k:=4) (N:=["wishes", "unlike"]) F Ex B4 (λak A outer s H E B hr =>
  (tL (uO (wn (uV aH.G (hr.mono (by decide)) rfl aH.m aH.p aH.b (f' (en 0) nH rfl))))
  (tL (uT (i:=1) nk (uR (Ls hr rfl aN rfl dS (f' (en 0) nH rfl))))
  (uQ (uO (zv (vN (N':=["wish", "-wishes", "unlike"]) (m:=1) (CompScope.of (by kernel_rfl)) rfl (vo (en 1)) (λ_ _ _ _=>(gd_n (i:=0) (m:=1) nk)) (λ_ _ _ _=>(xu (yG (yf (uV iZ.G (hr.mono (by decide)) rfl iZ.m iZ.p iZ.b (f' (en 2) (f' (en 0) nH rfl) rfl)))))) (λ_ _ _ _=>(en 0)))))))))
theorem O7(F:Fun K "roof_of" "roof_of" zC f fd){ar' ap'}(aH:vD P w K mg base ar' ap'){cM' cw'}(iZ:GU P w K mg base cM' cw')(aN:mg "sorted"=none)(dS:mg "set"=none){fx_must_be_kin fdx_must_be_kin}(ao:xf P w K mg base (clN K) fx_must_be_kin fdx_must_be_kin):FnOk P w K mg base (CXX P w) 5 f fd ["wishes"] (spE K (clN K) wN):=
 vV (k:=4) (N:=["wishes", "unlike"]) F Ex DO (λak A outer s H E B hr =>
  (wx (vm (wU (cqX ao hr (f' (en 0) nH rfl))))))
theorem LP:FnScope ["wishes", "wish"] ["wishes", "wish"] (defScope CO):=⟨rfl,rfl,rfl,by decide +kernel,rfl,by decide +kernel,by decide +kernel⟩
theorem LC(F:Fun K "is_under_another" "is_under_another" CO f fd){bo' bf'}(bh:wY P w K mg base bo' bf')(ge:mg "any"=none):FnOk P w K mg base CX0 4 f fd ["wishes", "wish"] (spD K zW):=
 u9 (k:=3) (N:=["wishes", "wish"]) F LP CC (λak A outer s H E B hr =>
  (uQ (uO (uU (JC rfl rfl ge (f' (uR (vN (N':=["one", "-wishes", "wish"]) (m:=1) (CompScope.of (by kernel_rfl)) rfl (vo (en 0)) (λ_ _ _ _=>(gd_n (i:=0) (m:=1) nk)) (λ_ _ _ _=>vZ) (λ_ _ _ _=>(xC (NC hr (en 0) (en 2)) (xQ (uV bh.G (hr.mono (by decide)) rfl bh.m bh.p bh.b (f' (en 0) (f' (en 2) nH rfl) rfl))))))) nH rfl))))))
theorem Ec:FnScope ["wishes", "wish"] ["wishes", "wish"] (defScope Aw):=⟨rfl,rfl,rfl,by decide +kernel,rfl,by decide +kernel,by decide +kernel⟩
theorem Ll(F:Fun K "covered" "covered" Aw f fd){ar' ap'}(aH:vD P w K mg base ar' ap'){df' cX'}(i8:DN P w K mg base df' cX')(aj:mg "len"=none)(aY:mg "list"=none)(aF:mg "range"=none):FnOk P w K mg base CX0 46 f fd ["wishes", "wish"] (spD K wa):=
 u9 (k:=45) (N:=["wishes", "wish"]) F Ec Bl (λak A outer s H E B hr =>
  (tL (uO (wn (uV aH.G (hr.mono (by decide)) rfl aH.m aH.p aH.b (f' (uR (vk (uR (uX (f' (en 1) nH rfl))) (en 0))) nH rfl))))
  (uQ (uO (uU (uV i8.G (hr.mono (by decide)) rfl i8.m i8.p i8.b (f' (en 0) (f' (uR (Jy rfl rfl aY rfl aF (f' (vt rfl aj (f' (en 0) nH rfl)) nH rfl))) (f' (en 1) nH rfl) rfl) rfl)))))))
theorem OT(F:Fun K "covered" "covered" Aw f fd){ar' ap'}(aH:vD P w K mg base ar' ap'){df' cX'}(i8:DN P w K mg base df' cX')(aj:mg "len"=none)(aY:mg "list"=none)(aF:mg "range"=none){fx_must_be_kin fdx_must_be_kin}(ao:xf P w K mg base (clN K) fx_must_be_kin fdx_must_be_kin):FnOk P w K mg base (CXX P w) 46 f fd ["wishes", "wish"] (spE K (clN K) AR):=
 vV (k:=45) (N:=["wishes", "wish"]) F Ec Fh (λak A outer s H E B hr =>
  (wx (vm (wU (cqX ao hr (f' (uR (vk (uR (uX (f' (en 1) nH rfl))) (en 0))) nH rfl))))))
theorem Ir:FnScope ["wishes", "numbers", "part", "near", "k", "place", "halves", "one", "other"] ["wishes", "numbers", "part"] (defScope Ae):=⟨rfl,rfl,rfl,by decide +kernel,rfl,by decide +kernel,by decide +kernel⟩
theorem K6{g:List R->Option (R×List R)}(hk:4<=kk)(F:Fun K "looked_through" "looked_through" Ae f fd)(G:FnOk P w K mg base CX0 kk f fd ["wishes", "numbers", "part"] (spD K g)){bZ' bH'}(cr:zN P w K mg base bZ' bH'){bo' bf'}(bh:wY P w K mg base bo' bf'){d1' dI'}(gf:G7 P w K mg base d1' dI'){b1' bI'}(cH:zl P w K mg base b1' bI')(aj:mg "len"=none)(aE:mg "tuple"=none)(i9:Binds K fd ["wishes", "numbers", "part"] [])(ja:PySem.W.keepIn K (.ref f)=true)(jb:mg "looked_through"=some (.ref f)):FnOk P w K mg base CX0 (kk+1) f fd ["wishes", "numbers", "part"] (spD K (fnD 9 3 (za g))):=
 u9 (N:=["wishes", "numbers", "part", "near", "k", "place", "halves", "one", "other"]) F Ir (za g) (λak A outer s H E B hr =>
  (tL (uO (As (i:=3) (N':=["k", "wishes", "-numbers", "part", "-near", "-k", "-place", "-halves", "-one", "-other"]) (m:=1) (CompScope.of (by kernel_rfl)) rfl nk (vo (en 1)) (λ_ _ _ _=>(gd_n (i:=0) (m:=1) nk)) (λ_ _ _ _=>(xu (HE (uV cr.G (hr.mono (z_ (by decide) hk)) rfl cr.m cr.p cr.b (f' (t5 (en 1) (en 0)) (f' (en 3) nH rfl) rfl)) wf))) (λ_ _ _ _=>(en 0))))
  (tL (uW (u0 hr (vt rfl aj (f' (en 3) nH rfl)) tx)
  (uQ (uO (uU (u4 (f' va (f' (yP rfl aE (f' (uR (vN (N':=["pair", "-wishes", "-numbers", "-part", "-near", "-k", "-place", "-halves", "-one", "-other"]) (m:=1) (CompScope.of (by kernel_rfl)) rfl (vo (en 2)) (λ_ _ _ _=>(gd_n (i:=0) (m:=1) nk)) (λ_ _ _ _=>vZ) (λ_ _ _ _=>(t5 (en 0) tx)))) nH rfl)) nH rfl) rfl))))) uY)
  (tL (vC UN rfl (vo (en 3)) (gd_n (i:=4) (m:=100) nk)
  (uQ (uW (yf (uV bh.G (hr.mono (z_ (by decide) hk)) rfl bh.m bh.p bh.b (f' (t5 (en 0) (en 4)) (f' (en 2) nH rfl) rfl)))
  (uQ (uO (uU (u4 (f' va (f' (u4 (f' va (f' (en 4) nH rfl) rfl)) nH rfl) rfl))))) uY)))
  (tL (uT (i:=5) nk (uV gf.G (hr.mono (z_ (by decide) hk)) rfl gf.m gf.p gf.b (f' (uR (vN (N':=["k", "wishes", "-numbers", "-part", "-near", "-k", "-place", "-halves", "-one", "-other"]) (m:=1) (CompScope.of (by kernel_rfl)) rfl (vo (en 3)) (λ_ _ _ _=>(gd_n (i:=0) (m:=1) nk)) (λ_ _ _ _=>vZ) (λ_ _ _ _=>(t5 (en 1) (en 0))))) (f' (en 2) nH rfl) rfl)))
  (tL (uT (i:=6) nk (uV cH.G (hr.mono (z_ (by decide) hk)) rfl cH.m cH.p cH.b (f' (en 2) (f' (t5 (en 5) tx) (f' (t5 (en 5) tx) nH rfl) rfl) rfl)))
  (tL (uT (i:=7) nk (uV G hr rfl jb ja i9 (f' (en 0) (f' (en 3) (f' (t5 (en 6) tx) nH rfl) rfl) rfl)))
  (tL (uW (u0 hr (t5 (en 7) tx) va)
  (uQ (uO (uU (en 7)))) uY)
  (tL (uT (i:=8) nk (uV G hr rfl jb ja i9 (f' (en 0) (f' (en 3) (f' (t5 (en 6) tx) nH rfl) rfl) rfl)))
  (tL (uW (u0 hr (t5 (en 8) tx) va)
  (uQ (uO (uU (en 8)))) uY)
  (uQ (uO (uU (u4 (f' va (f' (u4 (vA va (t5 (en 5) tx) (t5 (en 5) tx) (t5 (en 7) tx) (f' (t5 (en 8) tx) nH rfl) rfl rfl rfl rfl)) nH rfl) rfl)))))))))))))))
theorem Fo{f:g_}{fd:R6}(F:Fun K "looked_through" "looked_through" Ae f fd){bZ' bH'}(cr:zN P w K mg base bZ' bH'){bo' bf'}(bh:wY P w K mg base bo' bf'){d1' dI'}(gf:G7 P w K mg base d1' dI'){b1' bI'}(cH:zl P w K mg base b1' bI')(aj:mg "len"=none)(aE:mg "tuple"=none)(i9:Binds K fd ["wishes", "numbers", "part"] [])(ja:PySem.W.keepIn K (.ref f)=true)(jb:mg "looked_through"=some (.ref f)):∀n:Nat,FnOk P w K mg base CX0 (5+n) f fd ["wishes", "numbers", "part"] (spD K (xn n))
 | 0=>yd
 | n+1=>K6 (z_ (by decide) (R8 _ n)) F (Fo F cr bh gf cH aj aE i9 ja jb n) cr bh gf cH aj aE i9 ja jb
theorem Jt:FnScope ["wishes", "part", "places", "field", "pair", "wish"] ["wishes", "part"] (defScope AH):=⟨rfl,rfl,rfl,by decide +kernel,rfl,by decide +kernel,by decide +kernel⟩
theorem NP(F:Fun K "first_border" "first_border" AH f fd)(aU:mg "enumerate"=none)(aG:mg "min"=none):FnOk P w K mg base CX0 2 f fd ["wishes", "part"] (spD K Au):=
 u9 (k:=1) (N:=["wishes", "part", "places", "field", "pair", "wish"]) F Jt Bx (λak A outer s H E B hr =>
  (tL (uO (wQ (i:=2) nk (uX nH)))
  (tL (vC UN rfl (EN rfl aU (f' (en 1) nH rfl)) (wM (m:=100) rfl (vw (gd_n (i:=3) (m:=100) nk) (vw (gd_n (i:=4) (m:=100) nk) wG)))
  (uQ (vC UN rfl (vo (en 0)) (gd_n (i:=5) (m:=100) nk)
  (tL (uW (wD (t5 (en 4) tx) (t5 (t5 (en 5) (en 3)) tx))
  (uQ (uO (xz (pv 2) (u4 (f' (en 3) (f' (wc (t5 (t5 (en 5) (en 3)) tx) tx) nH rfl) rfl))))) uY)
  (uQ (uW (wD (t5 (t5 (en 5) (en 3)) tx) (t5 (en 4) tx))
  (uQ (uO (xz (pv 2) (u4 (f' (en 3) (f' (t5 (t5 (en 5) (en 3)) tx) nH rfl) rfl))))) uY))))))
  (uQ (uO (uU (Oh rfl hr rfl aG (f' (en 2) nH rfl))))))))
theorem HR:FnScope ["part", "field", "at", "ahead", "behind", "low", "high"] ["part", "field", "at"] (defScope Cw):=⟨rfl,rfl,rfl,by decide +kernel,rfl,by decide +kernel,by decide +kernel⟩
theorem HB(F:Fun K "halves_of" "halves_of" Cw f fd) :FnOk P w K mg base CX0 2 f fd ["part", "field", "at"] (spD K yL):=
 u9 (k:=1) (N:=["part", "field", "at", "ahead", "behind", "low", "high"]) F HR Cv (λak A outer s H E B hr =>
  (tL (uT (i:=3) nk (wk (en 0) wJ (wd (en 1))))
  (tL (uT (i:=4) nk (wk (en 0) (wd (u8 (en 1) tx)) wJ))
  (tL (uT (i:=5) nk (t5 (t5 (en 0) (en 1)) tx))
  (tL (uT (i:=6) nk (t5 (t5 (en 0) (en 1)) tx))
  (uQ (uO (uU (u4 (f' (u8 (u8 (en 3) (u4 (f' (u4 (f' (en 5) (f' (en 2) nH rfl) rfl)) nH rfl))) (en 4)) (f' (u8 (u8 (en 3) (u4 (f' (u4 (f' (u8 (en 2) tx) (f' (en 6) nH rfl) rfl)) nH rfl))) (en 4)) nH rfl) rfl))))))))))
theorem FF:FnScope ["wishes", "wish", "tree"] ["wishes", "wish", "tree"] (defScope zd):=⟨rfl,rfl,rfl,by decide +kernel,rfl,by decide +kernel,by decide +kernel⟩
theorem Ku(F:Fun K "is_cuts" "is_cuts" zd f fd){ar' ap'}(aH:vD P w K mg base ar' ap'){d2' dJ'}(jd:ES P w K mg base d2' dJ'):FnOk P w K mg base CX0 16 f fd ["wishes", "wish", "tree"] (spD K yw):=
 u9 (k:=15) (N:=["wishes", "wish", "tree"]) F FF Cf (λak A outer s H E B hr =>
  (tL (uO (wn (uV aH.G (hr.mono (by decide)) rfl aH.m aH.p aH.b (f' (uR (vk (uR (uX (f' (en 1) nH rfl))) (en 0))) nH rfl))))
  (uQ (uO (uU (uV jd.G (hr.mono (by decide)) rfl jd.m jd.p jd.b (f' (en 0) (f' (en 1) (f' (en 2) nH rfl) rfl) rfl)))))))
theorem HI(F:Fun K "is_cuts" "is_cuts" zd f fd){ar' ap'}(aH:vD P w K mg base ar' ap'){d2' dJ'}(jd:ES P w K mg base d2' dJ'){fx_must_be_kin fdx_must_be_kin}(ao:xf P w K mg base (clN K) fx_must_be_kin fdx_must_be_kin):FnOk P w K mg base (CXX P w) 16 f fd ["wishes", "wish", "tree"] (spE K (clN K) Bs):=
 vV (k:=15) (N:=["wishes", "wish", "tree"]) F FF Fu (λak A outer s H E B hr =>
  (wx (vm (wU (cqX ao hr (f' (uR (vk (uR (uX (f' (en 1) nH rfl))) (en 0))) nH rfl))))))
theorem N2:FnScope ["wishes", "part", "tree", "field", "at", "halves"] ["wishes", "part", "tree"] (defScope Ar):=⟨rfl,rfl,rfl,by decide +kernel,rfl,by decide +kernel,by decide +kernel⟩
theorem M0{g:List R->Option (R×List R)}(hk:4<=kk)(F:Fun K "is_right_for" "is_right_for" Ar f fd)(G:FnOk P w K mg base CX0 kk f fd ["wishes", "part", "tree"] (spD K g)){bo' bf'}(bh:wY P w K mg base bo' bf'){b1' bI'}(cH:zl P w K mg base b1' bI')(aj:mg "len"=none)(je:Binds K fd ["wishes", "part", "tree"] [])(jf:PySem.W.keepIn K (.ref f)=true)(jg:mg "is_right_for"=some (.ref f)):FnOk P w K mg base CX0 (kk+1) f fd ["wishes", "part", "tree"] (spD K (fnD 6 3 (xZ g))):=
 u9 (N:=["wishes", "part", "tree", "field", "at", "halves"]) F N2 (xZ g) (λak A outer s H E B hr =>
  (tL (uW (u0 hr (t5 (en 2) tx) va)
  (uQ (uO (uU (xC (O0 tx (t5 (en 2) tx) (vt rfl aj (f' (en 0) nH rfl))) (xQ (uV bh.G (hr.mono (z_ (by decide) hk)) rfl bh.m bh.p bh.b (f' (t5 (en 0) (t5 (en 2) tx)) (f' (en 1) nH rfl) rfl))))))) uY)
  (tL (uT (i:=3) nk (t5 (en 2) tx))
  (tL (uT (i:=4) nk (t5 (en 2) tx))
  (tL (uW (TW.td (xm (yG (GE tx (en 3) (vt rfl aj (f' (en 1) nH rfl)))) (xO (yG (GE (t5 (t5 (en 1) (en 3)) tx) (en 4) (t5 (t5 (en 1) (en 3)) tx))))))
  (uQ (uO (uU wb))) uY)
  (tL (uT (i:=5) nk (uV cH.G (hr.mono (z_ (by decide) hk)) rfl cH.m cH.p cH.b (f' (en 1) (f' (en 3) (f' (en 4) nH rfl) rfl) rfl)))
  (uQ (uO (uU (xC (uV G hr rfl jg jf je (f' (en 0) (f' (t5 (en 5) tx) (f' (t5 (en 2) tx) nH rfl) rfl) rfl)) (xQ (uV G hr rfl jg jf je (f' (en 0) (f' (t5 (en 5) tx) (f' (t5 (en 2) tx) nH rfl) rfl) rfl)))))))))))))
theorem Eh{f:g_}{fd:R6}(F:Fun K "is_right_for" "is_right_for" Ar f fd){bo' bf'}(bh:wY P w K mg base bo' bf'){b1' bI'}(cH:zl P w K mg base b1' bI')(aj:mg "len"=none)(je:Binds K fd ["wishes", "part", "tree"] [])(jf:PySem.W.keepIn K (.ref f)=true)(jg:mg "is_right_for"=some (.ref f)):∀n:Nat,FnOk P w K mg base CX0 (5+n) f fd ["wishes", "part", "tree"] (spD K (vE n))
 | 0=>yd
 | n+1=>M0 (z_ (by decide) (R8 _ n)) F (Eh F bh cH aj je jf jg n) bh cH aj je jf jg
theorem E4:FnScope ["wishes", "roof", "stay", "wish", "others"] ["wishes"] (defScope zO):=⟨rfl,rfl,rfl,by decide +kernel,rfl,by decide +kernel,by decide +kernel⟩
theorem Mu(F:Fun K "spare_of" "spare_of" zO f fd){a8' a2'}(bx:wS P w K mg base a8' a2'){bU' by'}(bW:yt P w K mg base bU' by'):FnOk P w K mg base CX0 47 f fd ["wishes"] (spD K xA):=
 u9 (k:=46) (N:=["wishes", "roof", "stay", "wish", "others"]) F E4 AA (λak A outer s H E B hr =>
  (tL (uO (HY (i:=1) nk (vP bx.G (hr.mono (by decide)) rfl bx.m bx.p bx.b (f' (en 0) nH rfl))))
  (tL (uO (Gy (i:=2) (j:=1) nk (pv 1)))
  (tL (vC UN rfl (vo (en 1)) (gd_n (i:=3) (m:=100) nk)
  (tL (uO (Ml (i:=4) (N':=["one", "-wishes", "-roof", "-stay", "wish", "-others"]) (m:=1) (CompScope.of (by kernel_rfl)) rfl nk (vo (en 2)) (λ_ _ _ _=>(gd_n (i:=0) (m:=1) nk)) (λ_ _ _ _=>(xu (vF hr (en 0) (en 4)))) (λ_ _ _ _=>(en 0))))
  (uQ (uW (u0 hr (t5 (uV bW.G (hr.mono (by decide)) rfl bW.m bW.p bW.b (f' (en 4) (f' (en 3) nH rfl) rfl)) tx) va)
  (uQ (uO (Gy (i:=2) (j:=4) nk (pv 4)))) uY))))
  (uQ (uO (IM (pv 2))))))))
theorem MJ(F:Fun K "spare_of" "spare_of" zO f fd){a8' a2'}(bx:wS P w K mg base a8' a2'){bU' by'}(bW:yt P w K mg base bU' by'){fx_roof_of fdx_roof_of}(bc:zo P w K mg base (clN K) fx_roof_of fdx_roof_of):FnOk P w K mg base (CXX P w) 47 f fd ["wishes"] (spE K (clN K) A'):=
 vV (k:=46) (N:=["wishes", "roof", "stay", "wish", "others"]) F E4 Fn (λak A outer s H E B hr =>
  (wx (vm (A6 (i:=1) nk (cqX bc hr (f' (en 0) nH rfl))))))
theorem DT:FnScope ["wishes", "roof", "number", "tree", "told"] ["wishes"] (defScope zw):=⟨rfl,rfl,rfl,by decide +kernel,rfl,by decide +kernel,by decide +kernel⟩
theorem NA(F:Fun K "fewest_of" "fewest_of" zw f fd){a8' a2'}(bx:wS P w K mg base a8' a2'){fe' eA'}(eN:DG P w K mg base fe' eA'):FnOk P w K mg base CX0 64 f fd ["wishes"] (spD K xK):=
 u9 (k:=63) (N:=["wishes", "roof", "number", "tree", "told"]) F DT AZ (λak A outer s H E B hr =>
  (tL (uT (i:=1) nk (uR (vP bx.G (hr.mono (by decide)) rfl bx.m bx.p bx.b (f' (en 0) nH rfl))))
  (tL (uT (i:=2) nk tx)
  (tL (uT (i:=3) nk wf)
  (tL (uT (i:=4) nk (uV eN.G (hr.mono (by decide)) rfl eN.m eN.p eN.b (f' (en 1) (f' (uR (uX nH)) (f' (en 2) nH rfl) rfl) rfl)))
  (tL (KW UN (vF hr (t5 (en 4) tx) va)
  (tL (uT (i:=3) nk (en 4))
  (tL (uT (i:=2) nk (u8 (en 2) tx))
  (uQ (uT (i:=4) nk (uV eN.G (hr.mono (by decide)) rfl eN.m eN.p eN.b (f' (en 1) (f' (uR (uX nH)) (f' (en 2) nH rfl) rfl) rfl)))))))
  (uQ (uO (uU (u4 (f' (en 2) (f' (t5 (en 4) tx) (f' (en 3) nH rfl) rfl) rfl)))))))))))
theorem M3(F:Fun K "fewest_of" "fewest_of" zw f fd){a8' a2'}(bx:wS P w K mg base a8' a2'){fe' eA'}(eN:DG P w K mg base fe' eA'){fx_roof_of fdx_roof_of}(bc:zo P w K mg base (clN K) fx_roof_of fdx_roof_of):FnOk P w K mg base (CXX P w) 64 f fd ["wishes"] (spE K (clN K) Bh):=
 vV (k:=63) (N:=["wishes", "roof", "number", "tree", "told"]) F DT Fa (λak A outer s H E B hr =>
  (wx (vm (A6 (i:=1) nk (cqX bc hr (f' (en 0) nH rfl))))))
theorem OF:FnScope ["roof", "chosen", "more", "letter", "trees", "wish", "told"] ["roof", "chosen", "more"] (defScope yX):=⟨rfl,rfl,rfl,by decide +kernel,rfl,by decide +kernel,by decide +kernel⟩
theorem MK{g:List R->Option (R×List R)}(hk:52<=kk)(F:Fun K "looked_for" "looked_for" yX f fd)(G:FnOk P w K mg base CX0 kk f fd ["roof", "chosen", "more"] (spD K g)){bw' bq'}(c9:zK P w K mg base bw' bq'){ck' bV'}(bI:yD P w K mg base ck' bV')(aN:mg "sorted"=none)(jW:Binds K fd ["roof", "chosen", "more"] [])(jX:PySem.W.keepIn K (.ref f)=true)(jY:mg "looked_for"=some (.ref f)):FnOk P w K mg base CX0 (kk+1) f fd ["roof", "chosen", "more"] (spD K (fnD 7 3 (yY g))):=
 u9 (N:=["roof", "chosen", "more", "letter", "trees", "wish", "told"]) F OF (yY g) (λak A outer s H E B hr =>
  (tL (uT (i:=3) nk (uV c9.G (hr.mono (z_ (by decide) hk)) rfl c9.m c9.p c9.b (f' (en 0) (f' (en 1) nH rfl) rfl)))
  (tL (uW (F4 (en 3) wf)
  (uQ (uO (uU (u4 (f' va (f' (uR (NB hr rfl aN (f' (en 1) nH rfl))) nH rfl) rfl))))) uY)
  (tL (uW (u0 hr (en 2) tx)
  (uQ (uO (uU (u4 (f' va (f' (en 3) nH rfl) rfl))))) uY)
  (tL (uO (wQ (i:=4) nk (uX nH)))
  (tL (vC UN rfl (vo (uR (vP bI.G (hr.mono (z_ (by decide) hk)) rfl bI.m bI.p bI.b (f' (en 0) (f' (en 3) nH rfl) rfl)))) (gd_n (i:=5) (m:=100) nk)
  (tL (uT (i:=6) nk (uV G hr rfl jY jX jW (f' (en 0) (f' (uR (vk (en 1) (uR (uX (f' (en 5) nH rfl))))) (f' (wc (en 2) tx) nH rfl) rfl) rfl)))
  (tL (uW (u0 hr (t5 (en 6) tx) va)
  (uQ (uO (uU (en 6)))) uY)
  (uQ (uO (xz (pv 4) (en 6)))))))
  (uQ (uO (uU (u4 (f' va (f' (en 3) (f' (en 4) nH rfl) rfl) rfl)))))))))))
theorem Ez{f:g_}{fd:R6}(F:Fun K "looked_for" "looked_for" yX f fd){bw' bq'}(c9:zK P w K mg base bw' bq'){ck' bV'}(bI:yD P w K mg base ck' bV')(aN:mg "sorted"=none)(jW:Binds K fd ["roof", "chosen", "more"] [])(jX:PySem.W.keepIn K (.ref f)=true)(jY:mg "looked_for"=some (.ref f)):∀n:Nat,FnOk P w K mg base CX0 (53+n) f fd ["roof", "chosen", "more"] (spD K (v4 n))
 | 0=>yd
 | n+1=>MK (z_ (by decide) (R8 _ n)) F (Ez F c9 bI aN jW jX jY n) c9 bI aN jW jX jY
theorem LQ:FnScope ["roof", "chosen", "told", "letters"] ["roof", "chosen"] (defScope Cr):=⟨rfl,rfl,rfl,by decide +kernel,rfl,by decide +kernel,by decide +kernel⟩
theorem O8{c:g_}(F:Fun K "letter_left" "letter_left" Cr f fd)(jZ:PySem.W.nsIn K Q6 "letter_left"=some (some (.ref f)))(gK:Td K "letter_left"=some (c,P')){bU' by'}(bW:yt P w K mg base bU' by'){ck' bV'}(bI:yD P w K mg base ck' bV')(aG:mg "min"=none)(aj:mg "len"=none):FnOk P w K mg base CX0 51 f fd ["roof", "chosen"] (spD K xT):=
 OQ (k:=50) (N:=["roof", "chosen", "told", "letters"]) F LQ jZ gK Cc (λak aT A outer s H E B hr=>z8
  (tL (uO (As (i:=2) (N':=["wish", "-roof", "chosen", "-told", "-letters"]) (m:=1) (CompScope.of (by kernel_rfl)) rfl nk (vo (en 0)) (λ_ _ _ _=>(gd_n (i:=0) (m:=1) nk)) (λ_ _ _ _=>vZ) (λ_ _ _ _=>(uV bW.G (hr.mono (by decide)) rfl bW.m bW.p bW.b (f' (en 2) (f' (en 0) nH rfl) rfl)))))
  (tL (uO (As (i:=3) (N':=["one", "-roof", "-chosen", "-told", "-letters"]) (m:=1) (CompScope.of (by kernel_rfl)) rfl nk (vo (en 2)) (λ_ _ _ _=>(gd_n (i:=0) (m:=1) nk)) (λ_ _ _ _=>(xu (u0 hr (t5 (en 0) tx) va))) (λ_ _ _ _=>(t5 (en 0) tx))))
  (uQ (uO (uU (KB (kb:=5) (hr.mono (by decide)) rfl aG (Mj (jc:=0) (g:= "letter") (y:= "roof") rfl rfl (λA s H f cv hr=>(vt rfl aj (f' (uR (vP bI.G (hr.mono (by decide)) rfl bI.m bI.p bI.b (f' (en 1) (f' (en 0) nH rfl) rfl))) nH rfl)))) gK aT rfl rfl rfl (en 3))))))))
theorem Nv:FnScope ["wishes", "letter"] ["wishes", "letter"] (defScope Bj):=⟨rfl,rfl,rfl,by decide +kernel,rfl,by decide +kernel,by decide +kernel⟩
theorem LY(F:Fun K "having" "having" Bj f fd){cN' cp'}(cR:Cp P w K mg base cN' cp'):FnOk P w K mg base CX0 4 f fd ["wishes", "letter"] (spD K vK):=
 u9 (k:=3) (N:=["wishes", "letter"]) F Nv Cm (λak A outer s H E B hr =>
  (uQ (uO (zv (vN (N':=["wish", "-wishes", "letter"]) (m:=1) (CompScope.of (by kernel_rfl)) rfl (vo (en 0)) (λ_ _ _ _=>(gd_n (i:=0) (m:=1) nk)) (λ_ _ _ _=>(xu (yf (uV cR.G (hr.mono (by decide)) rfl cR.m cR.p cR.b (f' (en 0) (f' (en 2) nH rfl) rfl))))) (λ_ _ _ _=>(en 0)))))))
theorem DY:FnScope ["wishes", "thing", "number", "some", "roof"] ["wishes", "thing"] (defScope zR):=⟨rfl,rfl,rfl,by decide +kernel,rfl,by decide +kernel,by decide +kernel⟩
theorem HP(F:Fun K "is_fewest" "is_fewest" zR f fd){ar' ap'}(aH:vD P w K mg base ar' ap'){ff' eB'}(de:FV P w K mg base ff' eB'){a8' a2'}(bx:wS P w K mg base a8' a2'){dN' dg'}(jh:GN P w K mg base dN' dg'){bw' bq'}(c9:zK P w K mg base bw' bq')(aj:mg "len"=none):FnOk P w K mg base CX0 52 f fd ["wishes", "thing"] (spD K Ab):=
 u9 (k:=51) (N:=["wishes", "thing", "number", "some", "roof"]) F DY Bw (λak A outer s H E B hr =>
  (tL (uT (i:=2) nk (t5 (en 1) tx))
  (tL (uT (i:=3) nk (t5 (en 1) tx))
  (tL (uO (wn (uV aH.G (hr.mono (by decide)) rfl aH.m aH.p aH.b (f' (uR (vk (uR (vk (en 0) (en 3))) (uV de.G (hr.mono (by decide)) rfl de.m de.p de.b (f' (t5 (en 1) tx) nH rfl)))) nH rfl))))
  (tL (uT (i:=4) nk (uR (vP bx.G (hr.mono (by decide)) rfl bx.m bx.p bx.b (f' (en 0) nH rfl))))
  (tL (uW (TW.td (xm (vF hr (vt rfl aj (f' (en 3) nH rfl)) (en 2)) (xO (vF hr (en 3) (uR (vN (N':=["wish", "-wishes", "-thing", "-number", "some", "-roof"]) (m:=1) (CompScope.of (by kernel_rfl)) rfl (vo (en 4)) (λ_ _ _ _=>(gd_n (i:=0) (m:=1) nk)) (λ_ _ _ _=>(xu (La hr (en 0) (en 4)))) (λ_ _ _ _=>(en 0))))))))
  (uQ (uO (uU wb))) uY)
  (uQ (uO (uU (xC (JI (uV c9.G (hr.mono (by decide)) rfl c9.m c9.p c9.b (f' (en 4) (f' (en 3) nH rfl) rfl)) wf) (xQ (uV jh.G (hr.mono (by decide)) rfl jh.m jh.p jh.b (vA (en 4) (uR (uX nH)) (wc (en 2) tx) (t5 (en 1) tx) nH rfl rfl rfl rfl)))))))))))))
theorem JQ(F:Fun K "is_fewest" "is_fewest" zR f fd){ar' ap'}(aH:vD P w K mg base ar' ap'){ff' eB'}(de:FV P w K mg base ff' eB'){a8' a2'}(bx:wS P w K mg base a8' a2'){dN' dg'}(jh:GN P w K mg base dN' dg'){bw' bq'}(c9:zK P w K mg base bw' bq')(aj:mg "len"=none){fx_roof_of fdx_roof_of}(bc:zo P w K mg base (clN K) fx_roof_of fdx_roof_of){fx_must_be_kin fdx_must_be_kin}(ao:xf P w K mg base (clN K) fx_must_be_kin fdx_must_be_kin):FnOk P w K mg base (CXX P w) 52 f fd ["wishes", "thing"] (spE K (clN K) ze):=
 vV (k:=51) (N:=["wishes", "thing", "number", "some", "roof"]) F DY Fb (λak A outer s H E B hr =>
  (Bc (uT (i:=2) nk (t5 (en 1) tx))
  (Bc (uT (i:=3) nk (t5 (en 1) tx))
  (wg (uO (wn (uV aH.G (hr.mono (by decide)) rfl aH.m aH.p aH.b (f' (uR (vk (uR (vk (en 0) (en 3))) (uV de.G (hr.mono (by decide)) rfl de.m de.p de.b (f' (t5 (en 1) tx) nH rfl)))) nH rfl)))) (vm (wU (cqX ao hr (f' (uR (vk (uR (vk (en 0) (en 3))) (uV de.G (hr.mono (by decide)) rfl de.m de.p de.b (f' (t5 (en 1) tx) nH rfl)))) nH rfl))))
  (wx (vm (A6 (i:=4) nk (cqX bc hr (f' (en 0) nH rfl)))))))))
theorem OD:FnScope ["tree", "letters", "twig"] ["tree"] (defScope zh):=⟨rfl,rfl,rfl,by decide +kernel,rfl,by decide +kernel,by decide +kernel⟩
theorem K'{g:List R->Option (R×List R)}(hk:2<=kk)(F:Fun K "letters_in" "letters_in" zh f fd)(G:FnOk P w K mg base CX0 kk f fd ["tree"] (spD K g))(j0:Binds K fd ["tree"] [])(j8:PySem.W.keepIn K (.ref f)=true)(j9:mg "letters_in"=some (.ref f)):FnOk P w K mg base CX0 (kk+1) f fd ["tree"] (spD K (fnD 3 1 (Bv g))):=
 u9 (N:=["tree", "letters", "twig"]) F OD (Bv g) (λak A outer s H E B hr =>
  (tL (uO (wQ (i:=1) nk (uX (f' (t5 (en 0) tx) nH rfl))))
  (tL (uW (u0 hr (t5 (en 0) tx) va)
  (uQ (vC UN rfl (vo (t5 (en 0) tx)) (gd_n (i:=2) (m:=100) nk)
  (uQ (uO (HD (pv 1) (uV G hr rfl j9 j8 j0 (f' (en 2) nH rfl))))))) uY)
  (uQ (uO (uU (en 1)))))))
theorem Gu{f:g_}{fd:R6}(F:Fun K "letters_in" "letters_in" zh f fd)(j0:Binds K fd ["tree"] [])(j8:PySem.W.keepIn K (.ref f)=true)(j9:mg "letters_in"=some (.ref f)):∀n:Nat,FnOk P w K mg base CX0 (3+n) f fd ["tree"] (spD K (wy n))
 | 0=>yd
 | n+1=>K' (z_ (by decide) (R8 _ n)) F (Gu F j0 j8 j9 n) j0 j8 j9
theorem OG:FnScope ["roof", "chosen", "more", "tree", "letter", "choices"] ["roof", "chosen", "more", "tree"] (defScope Ac):=⟨rfl,rfl,rfl,by decide +kernel,rfl,by decide +kernel,by decide +kernel⟩
theorem Ko{g:List R->Option (R×List R)}(hk:5<=kk)(F:Fun K "is_right_tree" "is_right_tree" Ac f fd)(G:FnOk P w K mg base CX0 kk f fd ["roof", "chosen", "more", "tree"] (spD K g)){ck' bV'}(bI:yD P w K mg base ck' bV')(aj:mg "len"=none)(aL:mg "zip"=none)(aW:mg "all"=none)(ka:Binds K fd ["roof", "chosen", "more", "tree"] [])(kc:PySem.W.keepIn K (.ref f)=true)(kf:mg "is_right_tree"=some (.ref f)):FnOk P w K mg base CX0 (kk+1) f fd ["roof", "chosen", "more", "tree"] (spD K (fnD 6 4 (Ah g))):=
 u9 (N:=["roof", "chosen", "more", "tree", "letter", "choices"]) F OG (Ah g) (λak A outer s H E B hr =>
  (tL (uT (i:=4) nk (t5 (en 3) tx))
  (tL (uT (i:=5) nk (uR (vP bI.G (hr.mono (z_ (by decide) hk)) rfl bI.m bI.p bI.b (f' (en 0) (f' (en 4) nH rfl) rfl))))
  (tL (uW (TW.td (xm (u0 hr (vt rfl aj (f' (en 5) nH rfl)) tx) (xO (GC (vt rfl aj (f' (uR (vP bI.G (hr.mono (z_ (by decide) hk)) rfl bI.m bI.p bI.b (f' (en 1) (f' (en 4) nH rfl) rfl))) nH rfl)) tx))))
  (uQ (uO (uU wb))) uY)
  (tL (uW (u0 hr (t5 (en 3) tx) va)
  (uQ (uO (uU (AJ hr (en 2) tx)))) uY)
  (tL (uW (TW.td (xm (u0 hr (en 2) tx) (xO (vF hr (vt rfl aj (f' (t5 (en 3) tx) nH rfl)) (vt rfl aj (f' (en 5) nH rfl))))))
  (uQ (uO (uU wb))) uY)
  (uQ (uO (uU (BY rfl rfl aW (f' (uR (vN (N':=["wish", "twig", "roof", "chosen", "more", "-tree", "-letter", "-choices"]) (m:=2) (CompScope.of (by kernel_rfl)) rfl (yS rfl aL (f' (en 5) (f' (t5 (en 3) tx) nH rfl) rfl)) (λ_ _ _ _=>(wM (m:=2) rfl (vw (gd_n (i:=0) (m:=2) nk) (vw (gd_n (i:=1) (m:=2) nk) wG)))) (λ_ _ _ _=>vZ) (λ_ _ _ _=>(uV G hr rfl kf kc ka (vA (en 2) (uR (vk (en 3) (uR (uX (f' (en 0) nH rfl))))) (wc (en 4) tx) (en 1) nH rfl rfl rfl rfl))))) nH rfl)))))))))))
theorem EG{f:g_}{fd:R6}(F:Fun K "is_right_tree" "is_right_tree" Ac f fd){ck' bV'}(bI:yD P w K mg base ck' bV')(aj:mg "len"=none)(aL:mg "zip"=none)(aW:mg "all"=none)(ka:Binds K fd ["roof", "chosen", "more", "tree"] [])(kc:PySem.W.keepIn K (.ref f)=true)(kf:mg "is_right_tree"=some (.ref f)):∀n:Nat,FnOk P w K mg base CX0 (6+n) f fd ["roof", "chosen", "more", "tree"] (spD K (xI n))
 | 0=>yd
 | n+1=>Ko (z_ (by decide) (R8 _ n)) F (EG F bI aj aL aW ka kc kf n) bI aj aL aW ka kc kf
theorem Lk:FnScope ["cell", "at", "one", "two", "three"] ["cell", "at"] (defScope Bf):=⟨rfl,rfl,rfl,by decide +kernel,rfl,by decide +kernel,by decide +kernel⟩
theorem Lv(F:Fun K "_law_blend" "_law_blend" Bf f fd) :FnOk P w K mg base CX0 2 f fd ["cell", "at"] (spD K yA):=
 u9 (k:=1) (N:=["cell", "at", "one", "two", "three"]) F Lk Bu (λak A outer s H E B hr =>
  (tL (uW (KU (en 0) (yh tx tx))
  (uQ (uO (uU (en 0)))) uY)
  (tL (uT (i:=2) nk (vW (u8 (u8 (v6 (vW (en 0) tx) tx) (v6 (en 1) tx)) tx) tx))
  (tL (uT (i:=3) nk (vW (u8 (u8 (v6 (en 2) (en 2)) (v6 (en 1) tx)) (vW (en 0) tx)) tx))
  (tL (uT (i:=4) nk (vW (u8 (u8 (v6 (en 3) (en 3)) (v6 (en 2) tx)) tx) tx))
  (uQ (uO (uU (u8 (v6 (u8 (v6 (en 2) tx) (en 3)) tx) (en 4))))))))))
theorem Oz:FnScope ["script", "cells", "k", "cell"] ["script"] (defScope B1):=⟨rfl,rfl,rfl,by decide +kernel,rfl,by decide +kernel,by decide +kernel⟩
theorem Kb(F:Fun K "_law_pot" "_law_pot" B1 f fd)(aY:mg "list"=none)(aU:mg "enumerate"=none):FnOk P w K mg base CX0 2 f fd ["script"] (spD K yK):=
 u9 (k:=1) (N:=["script", "cells", "k", "cell"]) F Oz Bd (λak A outer s H E B hr =>
  (tL (uO (wQ (i:=1) nk (AQ rfl aY (f' (wk (en 0) wJ (wd tx)) nH rfl))))
  (tL (vC UN rfl (EN rfl aU (f' (wk (en 0) (wd tx) (wd tx)) nH rfl)) (wM (m:=100) rfl (vw (gd_n (i:=2) (m:=100) nk) (vw (gd_n (i:=3) (m:=100) nk) wG)))
  (uQ (uO (zq (pv 1) (vW (en 2) tx) (u8 (vO (pv 1) (vW (en 2) tx)) (en 3))))))
  (uQ (uO (zv (uX (f' (en 1) (f' tx (f' tx nH rfl) rfl) rfl))))))))
theorem IH:FnScope ["pot", "upto", "at", "cell", "found"] ["pot", "upto"] (defScope AT):=⟨rfl,rfl,rfl,by decide +kernel,rfl,by decide +kernel,by decide +kernel⟩
theorem IA(F:Fun K "_law_pick" "_law_pick" AT f fd){mD' mc'}(kh:NO P w K mg base mD' mc')(aj:mg "len"=none):FnOk P w K mg base CX0 3 f fd ["pot", "upto"] (spD K vg):=
 u9 (k:=2) (N:=["pot", "upto", "at", "cell", "found"]) F IH AL (λak A outer s H E B hr =>
  (tL (uW (wD (vO (pv 0) tx) (en 1))
  (tL (uT (i:=2) nk (vO (pv 0) tx))
  (tL (uT (i:=3) nk (v6 tx (en 2)))
  (tL (uW (wD (en 2) (vt rfl aj (f' (vO (pv 0) tx) nH rfl)))
  (uQ (uT (i:=3) nk (t5 (vO (pv 0) tx) (en 2)))) (uQ (uW (vF hr (vO (pv 0) tx) (uR (uX nH)))
  (uQ (uT (i:=3) nk (vW (t5 (vO (pv 0) tx) (vW (u8 (v6 (en 2) tx) tx) (vt rfl aj (f' (vO (pv 0) tx) nH rfl)))) (u8 (yh tx tx) (v6 tx (en 2)))))) uY)))
  (tL (uO (zq (pv 0) tx (u8 (en 2) tx)))
  (uQ (uO (zq (pv 0) tx (uV kh.G (hr.mono (by decide)) rfl kh.m kh.p kh.b (f' (en 3) (f' (en 2) nH rfl) rfl))))))))) uY)
  (tL (uT (i:=4) nk (vW (vO (pv 0) tx) (en 1)))
  (tL (uO (zq (pv 0) tx (LM (vO (pv 0) tx) (en 1))))
  (uQ (uO (uU (en 4))))))))
theorem NL:FnScope ["pot", "fields", "low", "top", "pairs", "k", "one", "other"] ["pot", "fields", "low", "top"] (defScope A5):=⟨rfl,rfl,rfl,by decide +kernel,rfl,by decide +kernel,by decide +kernel⟩
theorem NU(F:Fun K "_law_wish" "_law_wish" A5 f fd){bi' bb'}(am:xS P w K mg base bi' bb')(aF:mg "range"=none)(aG:mg "min"=none)(ba:mg "max"=none)(aE:mg "tuple"=none):FnOk P w K mg base CX0 4 f fd ["pot", "fields", "low", "top"] (spD K xi):=
 u9 (k:=3) (N:=["pot", "fields", "low", "top", "pairs", "k", "one", "other"]) F NL Ct (λak A outer s H E B hr =>
  (tL (uO (wQ (i:=4) nk (uX nH)))
  (tL (vC UN rfl (yM rfl aF (f' (en 1) nH rfl)) (gd_n (i:=5) (m:=100) nk)
  (tL (uT (i:=6) nk (u8 (en 2) (vd am.G (hr.mono (by decide)) rfl am.m am.p am.b (pv 0) (f' (en 3) nH rfl))))
  (tL (uT (i:=7) nk (u8 (en 2) (vd am.G (hr.mono (by decide)) rfl am.m am.p am.b (pv 0) (f' (en 3) nH rfl))))
  (uQ (uO (xz (pv 4) (u4 (f' (yu rfl rfl aG (f' (en 6) (f' (en 7) nH rfl) rfl)) (f' (zJ rfl rfl ba (f' (en 6) (f' (en 7) nH rfl) rfl)) nH rfl) rfl))))))))
  (uQ (uO (uU (yP rfl aE (f' (en 4) nH rfl))))))))
theorem Kq:FnScope ["pot", "fields", "most", "top", "low", "found", "k", "way", "wish"] ["pot", "fields", "most"] (defScope Bk):=⟨rfl,rfl,rfl,by decide +kernel,rfl,by decide +kernel,by decide +kernel⟩
theorem OY(F:Fun K "_law_wishes" "_law_wishes" Bk f fd){bi' bb'}(am:xS P w K mg base bi' bb'){gu' fF'}(cu:FG P w K mg base gu' fF'){md' kM'}(ki:HW P w K mg base md' kM')(aG:mg "min"=none)(aF:mg "range"=none)(aj:mg "len"=none):FnOk P w K mg base CX0 5 f fd ["pot", "fields", "most"] (spD K zt):=
 u9 (k:=4) (N:=["pot", "fields", "most", "top", "low", "found", "k", "way", "wish"]) F Kq CA (λak A outer s H E B hr =>
  (tL (uT (i:=3) nk (yu rfl rfl aG (f' (t5 (by with_reducible exact(uR (uX (ad_k (by kernel_rfl))))) (vd am.G (hr.mono (by decide)) rfl am.m am.p am.b (pv 0) (f' tx nH rfl))) (f' (by with_reducible exact(t5 (uR (uX (KX.ad (.int (.int (.int (.int .nil))))))) (by with_unfolding_all exact(en 1)) (by with_unfolding_all exact λ_ _=>rfl))) nH rfl) rfl)))
  (tL (uT (i:=4) nk (vd am.G (hr.mono (by decide)) rfl am.m am.p am.b (pv 0) (f' (wc tx (en 3)) nH rfl)))
  (tL (uO (wQ (i:=5) nk (uX nH)))
  (tL (vC UN rfl (yM rfl aF (f' (vd am.G (hr.mono (by decide)) rfl am.m am.p am.b (pv 0) (f' (u8 (en 2) tx) nH rfl)) nH rfl)) (gd_n (i:=6) (m:=100) nk)
  (tL (uT (i:=7) nk (vd am.G (hr.mono (by decide)) rfl am.m am.p am.b (pv 0) (f' tx nH rfl)))
  (tL (uT (i:=8) nk (vd cu.G (hr.mono (by decide)) rfl cu.m cu.p cu.b (pv 0) (f' (en 1) (f' (en 4) (f' (en 3) nH rfl) rfl) rfl)))
  (tL (uW (TW.td (Hf (u0 hr (en 7) tx) (Ge (Fe hr (pv 5) (uR (uX nH))))))
  (uQ (uT (i:=8) nk (vO (pv 5) (vd am.G (hr.mono (by decide)) rfl am.m am.p am.b (pv 0) (f' (Da rfl aj (pv 5)) nH rfl))))) uY)
  (tL (uW (TW.td (Hf (u0 hr (en 7) tx) (Ge (Fe hr (pv 5) (uR (uX nH))))))
  (uQ (uT (i:=8) nk (vd ki.G (hr.mono (by decide)) rfl ki.m ki.p ki.b (pv 0) (f' (vO (pv 5) (vd am.G (hr.mono (by decide)) rfl am.m am.p am.b (pv 0) (f' (Da rfl aj (pv 5)) nH rfl))) nH rfl)))) uY)
  (uQ (uO (xz (pv 5) (en 8)))))))))
  (uQ (uO (uU (en 5)))))))))
theorem On:FnScope ["pot", "wish", "at", "low", "high", "pair"] ["pot", "wish"] (defScope BF):=⟨rfl,rfl,rfl,by decide +kernel,rfl,by decide +kernel,by decide +kernel⟩
theorem Ob(F:Fun K "_law_nudged" "_law_nudged" BF f fd){bi' bb'}(am:xS P w K mg base bi' bb')(aj:mg "len"=none)(ba:mg "max"=none)(aG:mg "min"=none):FnOk P w K mg base CX0 4 f fd ["pot", "wish"] (spD K yU):=
 u9 (k:=3) (N:=["pot", "wish", "at", "low", "high", "pair"]) F On Bp (λak A outer s H E B hr =>
  (tL (uT (i:=2) nk (vd am.G (hr.mono (by decide)) rfl am.m am.p am.b (pv 0) (f' (vt rfl aj (f' (en 1) nH rfl)) nH rfl)))
  (tL (uO (Ke (t5 (en 1) (en 2)) (wM (m:=100) rfl (vw (gd_n (i:=3) (m:=100) nk) (vw (gd_n (i:=4) (m:=100) nk) wG)))))
  (tL (uT (i:=5) nk (uR (uX (vA (u4 (f' (zJ rfl rfl ba (f' tx (f' (wc (en 3) tx) nH rfl) rfl)) (f' (en 4) nH rfl) rfl)) (u4 (f' (en 3) (f' (yu rfl rfl aG (f' tx (f' (u8 (en 4) tx) nH rfl) rfl)) nH rfl) rfl)) (u4 (f' (yu rfl rfl aG (f' (u8 (en 3) tx) (f' (en 4) nH rfl) rfl)) (f' (en 4) nH rfl) rfl)) (u4 (f' (en 3) (f' (zJ rfl rfl ba (f' (en 3) (f' (wc (en 4) tx) nH rfl) rfl)) nH rfl) rfl)) nH rfl rfl rfl rfl))))
  (uQ (uO (uU (u8 (u8 (wk (en 1) wJ (wd (en 2))) (u4 (f' (t5 (en 5) (vd am.G (hr.mono (by decide)) rfl am.m am.p am.b (pv 0) (f' tx nH rfl))) nH rfl))) (wk (en 1) (wd (u8 (en 2) tx)) wJ)))))))))
theorem L':FnScope ["caught", "some"] ["caught"] (defScope Cq):=⟨rfl,rfl,rfl,by decide +kernel,rfl,by decide +kernel,by decide +kernel⟩
theorem Iu(F:Fun K "_law_kind" "_law_kind" Cq f fd)(EX:Exs K mg)(aq:mg "isinstance"=none)(bR:mg "ValueError"=none):FnOk P w K mg base CX0 2 f fd ["caught"] (spD K wz):=
 u9 (k:=1) (N:=["caught", "some"]) F L' G4 (λak A outer s H E B hr =>
  (tL (uT (i:=1) nk (uR (uX (f' (vY EX.tab rfl aq rfl (EX.m "NoKin" (by decide)) (en 0)) (f' (vY EX.tab rfl aq rfl (EX.m "NoHouse" (by decide)) (en 0)) (f' (vY EX.tab rfl aq rfl (EX.m "NoRoad" (by decide)) (en 0)) nH rfl) rfl) rfl))))
  (tL (uT (i:=1) nk (uR (vk (en 1) (uR (uX (f' (vY EX.tab rfl aq rfl (EX.m "Ring" (by decide)) (en 0)) (f' (vY EX.tab rfl aq rfl (EX.m "NoHold" (by decide)) (en 0)) (f' (vY EX.tab rfl aq rfl (EX.m "NoLetter" (by decide)) (en 0)) nH rfl) rfl) rfl))))))
  (tL (uT (i:=1) nk (uR (vk (en 1) (uR (uX (f' (vY EX.tab rfl aq rfl (EX.m "NoStep" (by decide)) (en 0)) (f' (vY EX.tab rfl aq rfl (EX.m "NoText" (by decide)) (en 0)) (f' (vY EX.tab rfl aq rfl (EX.m "NoRow" (by decide)) (en 0)) nH rfl) rfl) rfl))))))
  (tL (uT (i:=1) nk (uR (vk (en 1) (uR (uX (f' (vY EX.tab rfl aq rfl (EX.m "NoLog" (by decide)) (en 0)) nH rfl))))))
  (tL (uW (TW.td (xm (vF hr (HL (en 1) (f' wb nH rfl)) tx) (xm (yG (yf (vY EX.tab rfl aq rfl (EX.m "RoofError" (by decide)) (en 0)))) (xO (yG (yf (Pb EX.tab rfl aq rfl bR (en 0))))))))
  (uQ (uO (uU va))) uY)
  (uQ (uO (uU (t5 (by with_reducible exact(uR (uX (ad_k (by kernel_rfl))))) (MW (en 1) (f' wb nH rfl))))))))))))
theorem FQ:FnScope ["at", "wishes", "one", "letter", "claim", "trees"] ["at", "wishes", "one", "letter", "claim"] (defScope yV):=⟨rfl,rfl,rfl,by decide +kernel,rfl,by decide +kernel,by decide +kernel⟩
theorem II(F:Fun K "_law_asked" "_law_asked" yV f fd){cN' cp'}(cR:Cp P w K mg base cN' cp'){bo' bf'}(bh:wY P w K mg base bo' bf'){bZ' bH'}(cr:zN P w K mg base bZ' bH'){bU' by'}(bW:yt P w K mg base bU' by'){hA' gv'}(eO:Gc P w K mg base hA' gv'){a8' a2'}(bx:wS P w K mg base a8' a2'){gw' fG'}(eP:Dl P w K mg base gw' fG'){fH' fg'}(eQ:G6 P w K mg base fH' fg'){fI' fh'}(ji:E5 P w K mg base fI' fh'):FnOk P w K mg base CX0 65 f fd ["at", "wishes", "one", "letter", "claim"] (spD K zD):=
 u9 (k:=64) (N:=["at", "wishes", "one", "letter", "claim", "trees"]) F FQ zU (λak A outer s H E B hr =>
  (tL (uT (i:=5) nk (by with_reducible exact(uR (uX (KX.ad (.tup (.str (.int .nil)) (.tup (.str (.int .nil)) (.tup (.str (.int (.ix (by with_unfolding_all exact pv 2) (.tup (.str (.int .nil)) (.tup (.str (.int .nil)) .nil))))) (.tup (.str (.int (.int (.tup (.str (.neg .nil)) (.tup (.str (.int .nil)) .nil))))) .nil)))))))))
  (tL (uW (u0 hr (en 0) tx)
  (uQ (uO (uU (uV cR.G (hr.mono (by decide)) rfl cR.m cR.p cR.b (f' (en 2) (f' (en 3) nH rfl) rfl))))) uY)
  (tL (uW (u0 hr (en 0) tx)
  (uQ (uO (uU (uV bh.G (hr.mono (by decide)) rfl bh.m bh.p bh.b (f' (t5 (en 1) tx) (f' (en 2) nH rfl) rfl))))) uY)
  (tL (uW (u0 hr (en 0) tx)
  (uQ (uO (uU (uV cr.G (hr.mono (by decide)) rfl cr.m cr.p cr.b (f' (en 2) (f' (t5 (en 1) (xP tx)) nH rfl) rfl))))) uY)
  (tL (uW (u0 hr (en 0) tx)
  (uQ (uO (uU (uV bW.G (hr.mono (by decide)) rfl bW.m bW.p bW.b (f' (en 1) (f' (en 2) nH rfl) rfl))))) uY)
  (tL (uW (wD (en 0) tx)
  (uQ (uO (uU (uV eO.G (hr.mono (by decide)) rfl eO.m eO.p eO.b (f' (en 1) (f' (en 2) (f' (t5 (en 5) (wc (en 0) tx)) nH rfl) rfl) rfl))))) uY)
  (tL (uW (u0 hr (en 0) tx)
  (uQ (uO (uU (uR (vP bx.G (hr.mono (by decide)) rfl bx.m bx.p bx.b (f' (en 1) nH rfl)))))) uY)
  (tL (uW (u0 hr (en 0) tx)
  (uQ (uO (uU (uR (vP eP.G (hr.mono (by decide)) rfl eP.m eP.p eP.b (f' (en 1) nH rfl)))))) uY)
  (tL (uW (u0 hr (en 0) tx)
  (uQ (uO (uU (uV eQ.G (hr.mono (by decide)) rfl eQ.m eQ.p eQ.b (f' (en 1) nH rfl))))) uY)
  (uQ (uO (uU (uV ji.G (hr.mono (by decide)) rfl ji.m ji.p ji.b (f' (en 1) (f' (u4 (f' (t5 (en 4) tx) (f' (t5 (en 4) tx) (f' (u4 (f' va (f' (en 3) nH rfl) rfl)) nH rfl) rfl) rfl)) nH rfl) rfl)))))))))))))))
theorem N9(F:Fun K "_law_asked" "_law_asked" yV f fd){cN' cp'}(cR:Cp P w K mg base cN' cp'){bo' bf'}(bh:wY P w K mg base bo' bf'){bZ' bH'}(cr:zN P w K mg base bZ' bH'){bU' by'}(bW:yt P w K mg base bU' by'){hA' gv'}(eO:Gc P w K mg base hA' gv'){a8' a2'}(bx:wS P w K mg base a8' a2'){gw' fG'}(eP:Dl P w K mg base gw' fG'){fH' fg'}(eQ:G6 P w K mg base fH' fg'){fI' fh'}(ji:E5 P w K mg base fI' fh'){fx_is_fewest fdx_is_fewest}(eR:Lw P w K mg base (clN K) fx_is_fewest fdx_is_fewest){fx_fewest_of fdx_fewest_of}(eS:Hv P w K mg base (clN K) fx_fewest_of fdx_fewest_of){fx_spare_of fdx_spare_of}(fC:Li P w K mg base (clN K) fx_spare_of fdx_spare_of){fx_roof_of fdx_roof_of}(bc:zo P w K mg base (clN K) fx_roof_of fdx_roof_of){fx_is_cuts fdx_is_cuts}(gj:Lg P w K mg base (clN K) fx_is_cuts fdx_is_cuts){fx_covered fdx_covered}(gm:Ng P w K mg base (clN K) fx_covered fdx_covered){fx_in_common fdx_in_common}(eT:Kp P w K mg base (clN K) fx_in_common fdx_in_common){fx_covers fdx_covers}(hV:IQ P w K mg base (clN K) fx_covers fdx_covers){fx_has_letter fdx_has_letter}(eu:Lz P w K mg base (clN K) fx_has_letter fdx_has_letter):FnOk P w K mg base (CXX P w) 65 f fd ["at", "wishes", "one", "letter", "claim"] (spE K (clN K) y9):=
 vV (k:=64) (N:=["at", "wishes", "one", "letter", "claim", "trees"]) F FQ xp (λak A outer s H E B hr =>
  (Bc (uT (i:=5) nk (by with_reducible exact(uR (uX (KX.ad (.tup (.str (.int .nil)) (.tup (.str (.int .nil)) (.tup (.str (.int (.ix (by with_unfolding_all exact pv 2) (.tup (.str (.int .nil)) (.tup (.str (.int .nil)) .nil))))) (.tup (.str (.int (.int (.tup (.str (.neg .nil)) (.tup (.str (.int .nil)) .nil))))) .nil)))))))))
  (wg (uW (u0 hr (en 0) tx)
  (uQ (uO (uU (uV cR.G (hr.mono (by decide)) rfl cR.m cR.p cR.b (f' (en 2) (f' (en 3) nH rfl) rfl))))) uY) (wv (u0 hr (en 0) tx)
  (vL (vm (wj (cqX eu hr (f' (en 2) (f' (en 3) nH rfl) rfl))))) wo)
  (wg (uW (u0 hr (en 0) tx)
  (uQ (uO (uU (uV bh.G (hr.mono (by decide)) rfl bh.m bh.p bh.b (f' (t5 (en 1) tx) (f' (en 2) nH rfl) rfl))))) uY) (wv (u0 hr (en 0) tx)
  (vL (vm (wj (cqX hV hr (f' (t5 (en 1) tx) (f' (en 2) nH rfl) rfl))))) wo)
  (wg (uW (u0 hr (en 0) tx)
  (uQ (uO (uU (uV cr.G (hr.mono (by decide)) rfl cr.m cr.p cr.b (f' (en 2) (f' (t5 (en 1) (xP tx)) nH rfl) rfl))))) uY) (wv (u0 hr (en 0) tx)
  (vL (vm (wj (cqX eT hr (f' (en 2) (f' (t5 (en 1) (xP tx)) nH rfl) rfl))))) wo)
  (wg (uW (u0 hr (en 0) tx)
  (uQ (uO (uU (uV bW.G (hr.mono (by decide)) rfl bW.m bW.p bW.b (f' (en 1) (f' (en 2) nH rfl) rfl))))) uY) (wv (u0 hr (en 0) tx)
  (vL (vm (wj (cqX gm hr (f' (en 1) (f' (en 2) nH rfl) rfl))))) wo)
  (wg (uW (wD (en 0) tx)
  (uQ (uO (uU (uV eO.G (hr.mono (by decide)) rfl eO.m eO.p eO.b (f' (en 1) (f' (en 2) (f' (t5 (en 5) (wc (en 0) tx)) nH rfl) rfl) rfl))))) uY) (wv (wD (en 0) tx)
  (vL (vm (wj (cqX gj hr (f' (en 1) (f' (en 2) (f' (t5 (en 5) (wc (en 0) tx)) nH rfl) rfl) rfl))))) wo)
  (wg (uW (u0 hr (en 0) tx)
  (uQ (uO (uU (uR (vP bx.G (hr.mono (by decide)) rfl bx.m bx.p bx.b (f' (en 1) nH rfl)))))) uY) (wv (u0 hr (en 0) tx)
  (vL (vm (wj (cqX bc hr (f' (en 1) nH rfl))))) wo)
  (wg (uW (u0 hr (en 0) tx)
  (uQ (uO (uU (uR (vP eP.G (hr.mono (by decide)) rfl eP.m eP.p eP.b (f' (en 1) nH rfl)))))) uY) (wv (u0 hr (en 0) tx)
  (vL (vm (wj (cqX fC hr (f' (en 1) nH rfl))))) wo)
  (wg (uW (u0 hr (en 0) tx)
  (uQ (uO (uU (uV eQ.G (hr.mono (by decide)) rfl eQ.m eQ.p eQ.b (f' (en 1) nH rfl))))) uY) (wv (u0 hr (en 0) tx)
  (vL (vm (wj (cqX eS hr (f' (en 1) nH rfl))))) wo)
  (vL (vm (wj (cqX eR hr (f' (en 1) (f' (u4 (f' (t5 (en 4) tx) (f' (t5 (en 4) tx) (f' (u4 (f' va (f' (en 3) nH rfl) rfl)) nH rfl) rfl) rfl)) nH rfl) rfl)))))))))))))))
theorem Ox:FnScope ["at", "wishes", "one", "letter", "claim", "caught", "handed", "inner", "e"] ["at", "wishes", "one", "letter", "claim"] (defScope CJ):=⟨rfl,rfl,rfl,by decide +kernel,rfl,by decide +kernel,by decide +kernel⟩
theorem JJ(F:Fun K "_law_told" "_law_told" CJ f fd){mE' me'}(kj:LX P w K mg base mE' me'){gx' fJ'}(eU:Ev P w K mg base gx' fJ'){fx_law_asked fdx_law_asked}(eV:JZ P w K mg base (clN K) fx_law_asked fdx_law_asked)(EX:Exs K mg)(aY:mg "list"=none):FnOk P w K mg base CX0 66 f fd ["at", "wishes", "one", "letter", "claim"] (spD K yi):=
 u9 (k:=65) (N:=["at", "wishes", "one", "letter", "claim", "caught", "handed", "inner", "e"]) F Ox AY (λak A outer s H E B hr =>
  (tL (uT (i:=5) nk wf)
  (tL (uT (i:=6) nk (uR (AQ rfl aY (f' (en 1) nH rfl))))
  (tL (uT (i:=7) nk (uR (AQ rfl aY (f' (t5 (en 4) tx) nH rfl))))
  (tL (uO (MV (i:=5) (j:=8) EX.top nk rfl rfl (EX.m "RoofError" (by decide)) (λ_ _=>z8 (uQ (uO (wn (uV kj.G (hr.mono (by decide)) rfl kj.m kj.p kj.b (vA (en 0) (en 6) (en 2) (en 3) (f' (u4 (f' (t5 (en 4) tx) (f' (en 7) nH rfl) rfl)) nH rfl) rfl rfl rfl rfl)))))) (λ_ _=>Be (vL (vm (wU (cqX eV hr (vA (en 0) (en 6) (en 2) (en 3) (f' (u4 (f' (t5 (en 4) tx) (f' (en 7) nH rfl) rfl)) nH rfl) rfl rfl rfl rfl))))))))
  (tL (uW (TW.td (xm (vF hr (en 6) (en 1)) (xO (vF hr (en 7) (t5 (en 4) tx)))))
  (uQ (uO (uU va))) uY)
  (uQ (uO (uU (ET (F4 (en 5) wf) va (uV eU.G (hr.mono (by decide)) rfl eU.m eU.p eU.b (f' (en 5) nH rfl))))))))))))
theorem JX:FnScope ["at", "wishes", "one", "letter", "claim", "there", "sizes"] ["at", "wishes", "one", "letter", "claim"] (defScope B2):=⟨rfl,rfl,rfl,by decide +kernel,rfl,by decide +kernel,by decide +kernel⟩
theorem LN(F:Fun K "_law_due" "_law_due" B2 f fd)(aj:mg "len"=none)(ba:mg "max"=none)(aG:mg "min"=none):FnOk P w K mg base CX0 2 f fd ["at", "wishes", "one", "letter", "claim"] (spD K yW):=
 u9 (k:=1) (N:=["at", "wishes", "one", "letter", "claim", "there", "sizes"]) F JX B3 (λak A outer s H E B hr =>
  (tL (uT (i:=5) nk (en 1))
  (tL (uW (u0 hr (en 0) tx)
  (uQ (uT (i:=5) nk (uR (uX (f' (en 2) (f' (en 3) nH rfl) rfl))))) (uQ (uW (u0 hr (en 0) tx)
  (uQ (uT (i:=5) nk (uR (uX (f' (t5 (en 1) tx) (f' (en 2) nH rfl) rfl))))) (uQ (uW (u0 hr (en 0) tx)
  (uQ (uT (i:=5) nk (uR (uX (f' (en 2) (f' (t5 (en 1) (xP tx)) nH rfl) rfl))))) (uQ (uW (wD (en 0) tx)
  (uQ (uT (i:=5) nk (uR (vk (en 1) (uR (uX (f' (en 2) nH rfl))))))) (uQ (uW (u0 hr (en 0) tx)
  (uQ (uT (i:=5) nk (uR (vk (en 1) (t5 (en 4) tx))))) uY)))))))))
  (tL (uO (As (i:=6) (N':=["thing", "-at", "-wishes", "-one", "-letter", "-claim", "-there", "-sizes"]) (m:=1) (CompScope.of (by kernel_rfl)) rfl nk (vo (en 5)) (λ_ _ _ _=>(gd_n (i:=0) (m:=1) nk)) (λ_ _ _ _=>vZ) (λ_ _ _ _=>(vt rfl aj (f' (en 0) nH rfl)))))
  (uQ (uO (uU (ET (u0 hr (K4 rfl rfl aG (f' (en 6) nH rfl)) (OR rfl rfl ba (f' (en 6) nH rfl))) va va))))))))
theorem OK:FnScope ["pot", "some", "odd", "at"] ["pot", "some", "odd"] (defScope AX):=⟨rfl,rfl,rfl,by decide +kernel,rfl,by decide +kernel,by decide +kernel⟩
theorem KJ(F:Fun K "_law_put" "_law_put" AX f fd){bi' bb'}(am:xS P w K mg base bi' bb')(aj:mg "len"=none):FnOk P w K mg base CX0 4 f fd ["pot", "some", "odd"] (spD K xM):=
 u9 (k:=3) (N:=["pot", "some", "odd", "at"]) F OK Ch (λak A outer s H E B hr =>
  (tL (uT (i:=3) nk (vd am.G (hr.mono (by decide)) rfl am.m am.p am.b (pv 0) (f' (u8 (vt rfl aj (f' (en 1) nH rfl)) tx) nH rfl)))
  (uQ (uO (zv (vk (uR (vk (wk (en 1) wJ (wd (en 3))) (uR (uX (f' (en 2) nH rfl))))) (wk (en 1) (wd (en 3)) wJ)))))))
theorem MU:FnScope ["pot", "number", "text", "made", "due"] ["pot"] (defScope BC):=⟨rfl,rfl,rfl,by decide +kernel,rfl,by decide +kernel,by decide +kernel⟩
theorem Jh(F:Fun K "_law_made_right" "_law_made_right" BC f fd){bi' bb'}(am:xS P w K mg base bi' bb'){gx' fJ'}(eU:Ev P w K mg base gx' fJ')(EX:Exs K mg){f_init fd_init}(LG:LgOk P w K mg base f_init fd_init):FnOk P w K mg base CX0 5 f fd ["pot"] (spD K yZ):=
 u9 (k:=4) (N:=["pot", "number", "text", "made", "due"]) F MU A1 (λak A outer s H E B hr =>
  (tL (uT (i:=1) nk (vd am.G (hr.mono (by decide)) rfl am.m am.p am.b (pv 0) (f' (yh tx tx) nH rfl)))
  (tL (uT (i:=2) nk (t5 (uR (uX (f' va (f' va (f' (Ks va tx) nH rfl) rfl) rfl))) (vd am.G (hr.mono (by decide)) rfl am.m am.p am.b (pv 0) (f' tx nH rfl))))
  (tL (uT (i:=3) nk (uR (uX (vA (ww rfl (EX.m "NoKin" (by decide)) (EX.xc "NoKin" (by decide)) (EX.kp "NoKin" (by decide)) (f' (en 2) nH rfl)) (ww rfl (EX.m "NoHouse" (by decide)) (EX.xc "NoHouse" (by decide)) (EX.kp "NoHouse" (by decide)) (f' (en 2) nH rfl)) (ww rfl (EX.m "NoRoad" (by decide)) (EX.xc "NoRoad" (by decide)) (EX.kp "NoRoad" (by decide)) (f' (en 2) nH rfl)) (ww rfl (EX.m "Ring" (by decide)) (EX.xc "Ring" (by decide)) (EX.kp "Ring" (by decide)) (f' (en 2) nH rfl)) (f' (ww rfl (EX.m "NoHold" (by decide)) (EX.xc "NoHold" (by decide)) (EX.kp "NoHold" (by decide)) (f' (en 2) nH rfl)) (f' (ww rfl (EX.m "NoLetter" (by decide)) (EX.xc "NoLetter" (by decide)) (EX.kp "NoLetter" (by decide)) (f' (en 2) nH rfl)) (f' (ww rfl (EX.m "NoStep" (by decide)) (EX.xc "NoStep" (by decide)) (EX.kp "NoStep" (by decide)) (f' (en 2) nH rfl)) nH rfl) rfl) rfl) rfl rfl rfl rfl))))
  (tL (uT (i:=3) nk (uR (vk (en 3) (uR (uX (f' (ww rfl (EX.m "NoText" (by decide)) (EX.xc "NoText" (by decide)) (EX.kp "NoText" (by decide)) (f' (en 2) nH rfl)) (f' (ww rfl (EX.m "NoRow" (by decide)) (EX.xc "NoRow" (by decide)) (EX.kp "NoRow" (by decide)) (f' (en 2) nH rfl)) (f' (JD LG.L LG.G LG.b hr (EX.m "NoLog" (by decide)) (en 1)) nH rfl) rfl) rfl))))))
  (tL (uT (i:=4) nk (by with_reducible exact(uR (uX (ad_k (by kernel_rfl))))))
  (uQ (uO (uU (xC (AJ hr (uR (vN (N':=["one", "-pot", "-number", "-text", "-made", "-due"]) (m:=1) (CompScope.of (by kernel_rfl)) rfl (vo (en 3)) (λ_ _ _ _=>(gd_n (i:=0) (m:=1) nk)) (λ_ _ _ _=>vZ) (λ_ _ _ _=>(uV eU.G (hr.mono (by decide)) rfl eU.m eU.p eU.b (f' (en 0) nH rfl))))) (en 4)) (xQ (AJ hr (Pe EX.tab LG.L (t5 (en 3) tx)) (en 1)))))))))))))
theorem LU:FnScope ["script", "pot", "turn", "fields", "others", "odd", "some", "one", "letter", "claim", "cases", "far", "wishes", "asked", "there", "told", "at"] ["script"] (defScope Az):=⟨rfl,rfl,rfl,by decide +kernel,rfl,by decide +kernel,by decide +kernel⟩
theorem NW(F:Fun K "law" "law" Az f fd){pO' n5'}(km:KY P w K mg base pO' n5'){bi' bb'}(am:xS P w K mg base bi' bb'){gu' fF'}(cu:FG P w K mg base gu' fF'){mf' kN'}(kn:Iq P w K mg base mf' kN'){pP' n6'}(dA:HX P w K mg base pP' n6'){pQ' n7'}(ko:K9 P w K mg base pQ' n7'){n8' mF'}(fD:Jj P w K mg base n8' mF'){iH' hT'}(kq:Nn P w K mg base iH' hT')(aF:mg "range"=none)(aE:mg "tuple"=none):FnOk P w K mg base CX0 67 f fd ["script"] (spD K wX):=
 u9 (k:=66) (N:=["script", "pot", "turn", "fields", "others", "odd", "some", "one", "letter", "claim", "cases", "far", "wishes", "asked", "there", "told", "at"]) F LU Ca (λak A outer s H E B hr =>
  (tL (uO (wQ (i:=1) nk (vP km.G (hr.mono (by decide)) rfl km.m km.p km.b (f' (en 0) nH rfl))))
  (tL (vC UN rfl (yM rfl aF (f' tx nH rfl)) (gd_n (i:=2) (m:=100) nk)
  (tL (uT (i:=3) nk (u8 tx (vd am.G (hr.mono (by decide)) rfl am.m am.p am.b (pv 1) (f' tx nH rfl))))
  (tL (uT (i:=4) nk (u8 tx (vW (u8 (en 3) (vd am.G (hr.mono (by decide)) rfl am.m am.p am.b (pv 1) (f' tx nH rfl))) tx)))
  (tL (uT (i:=5) nk (vd cu.G (hr.mono (by decide)) rfl cu.m cu.p cu.b (pv 1) (f' (en 4) (f' tx (f' tx nH rfl) rfl) rfl)))
  (tL (uT (i:=6) nk (uR (vk (uR (uX (f' (vd cu.G (hr.mono (by decide)) rfl cu.m cu.p cu.b (pv 1) (f' (en 3) (f' tx (f' tx nH rfl) rfl) rfl)) nH rfl))) (vd kn.G (hr.mono (by decide)) rfl kn.m kn.p kn.b (pv 1) (f' (en 3) (f' tx nH rfl) rfl)))))
  (tL (uT (i:=7) nk (t5 (uR (uX (f' (vd cu.G (hr.mono (by decide)) rfl cu.m cu.p cu.b (pv 1) (f' (en 3) (f' tx (f' tx nH rfl) rfl) rfl)) (f' (t5 (en 6) tx) nH rfl) rfl))) (vd am.G (hr.mono (by decide)) rfl am.m am.p am.b (pv 1) (f' tx nH rfl))))
  (tL (uT (i:=8) nk (yP rfl aE (f' (uR (vN (N':=["k", "-script", "pot", "-turn", "-fields", "-others", "-odd", "-some", "-one", "-letter", "-claim", "-cases", "-far", "-wishes", "-asked", "-there", "-told", "-at"]) (m:=1) (CompScope.of (by kernel_rfl)) rfl (yM rfl aF (f' (en 3) nH rfl)) (λ_ _ _ _=>(gd_n (i:=0) (m:=1) nk)) (λ_ _ _ _=>vZ) (λ_ _ _ _=>(vd am.G (hr.mono (by decide)) rfl am.m am.p am.b (pv 2) (f' tx nH rfl))))) nH rfl)))
  (tL (uT (i:=9) nk (u4 (f' (vd am.G (hr.mono (by decide)) rfl am.m am.p am.b (pv 1) (f' tx nH rfl)) (f' (wk (en 6) wJ (wd (vd am.G (hr.mono (by decide)) rfl am.m am.p am.b (pv 1) (f' tx nH rfl)))) nH rfl) rfl)))
  (tL (uT (i:=10) nk (uR (uX (f' (u4 (vA (en 6) (en 7) (en 8) (en 9) nH rfl rfl rfl rfl)) (f' (u4 (vA (uR (AN dA.G (hr.mono (by decide)) rfl dA.m dA.p dA.b (pv 1) (f' (en 6) (f' (en 5) nH rfl) rfl))) (en 7) (en 8) (en 9) nH rfl rfl rfl rfl)) (f' (u4 (vA (en 6) (en 5) (en 8) (en 9) nH rfl rfl rfl rfl)) nH rfl) rfl) rfl))))
  (tL (uT (i:=11) nk (u4 (f' (u8 (t5 (en 9) tx) (vd am.G (hr.mono (by decide)) rfl am.m am.p am.b (pv 1) (f' tx nH rfl))) (f' (uR (AN dA.G (hr.mono (by decide)) rfl dA.m dA.p dA.b (pv 1) (f' (t5 (en 9) tx) (f' (en 5) nH rfl) rfl))) nH rfl) rfl)))
  (tL (uT (i:=10) nk (uR (vk (en 10) (uR (uX (f' (u4 (vA (en 6) (en 7) (en 8) (en 11) nH rfl rfl rfl rfl)) (f' (u4 (vA (uR (AN dA.G (hr.mono (by decide)) rfl dA.m dA.p dA.b (pv 1) (f' (en 6) (f' (en 5) nH rfl) rfl))) (en 5) (en 8) (en 11) nH rfl rfl rfl rfl)) nH rfl) rfl))))))
  (tL (vC UN rfl (vo (en 10)) (wM (m:=100) rfl (vw (gd_n (i:=12) (m:=100) nk) (vw (gd_n (i:=13) (m:=100) nk) (vw (gd_n (i:=14) (m:=100) nk) (vw (gd_n (i:=15) (m:=100) nk) wG)))))
  (uQ (vC UN rfl (yM rfl aF (f' tx nH rfl)) (gd_n (i:=16) (m:=100) nk)
  (uQ (uW (vF hr (uV fD.G (hr.mono (by decide)) rfl fD.m fD.p fD.b (vA (en 16) (en 12) (en 13) (en 14) (f' (en 15) nH rfl) rfl rfl rfl rfl)) (uV ko.G (hr.mono (by decide)) rfl ko.m ko.p ko.b (vA (en 16) (en 12) (en 13) (en 14) (f' (en 15) nH rfl) rfl rfl rfl rfl)))
  (uQ (uO (uU wb))) uY)))))
  (uQ (uW (vF hr (uV fD.G (hr.mono (by decide)) rfl fD.m fD.p fD.b (vA tx (en 6) (en 7) (yP rfl aE (f' (uR (vN (N':=["pair", "-script", "-pot", "-turn", "-fields", "-others", "-odd", "-some", "-one", "-letter", "-claim", "-cases", "-far", "-wishes", "-asked", "-there", "-told", "-at"]) (m:=1) (CompScope.of (by kernel_rfl)) rfl (vo (en 5)) (λ_ _ _ _=>(gd_n (i:=0) (m:=1) nk)) (λ_ _ _ _=>vZ) (λ_ _ _ _=>(t5 (en 0) tx)))) nH rfl)) (f' (en 9) nH rfl) rfl rfl rfl rfl)) va)
  (uQ (uO (uU wb))) uY))))))))))))))
  (uQ (uO (uU (vd kq.G (hr.mono (by decide)) rfl kq.m kq.p kq.b (pv 1) nH)))))))
end
structure Dn(K:PySem.W.Frag)(mg:Str->Option b_)(x:Str)(st:Rm)(f:g_)(fd:R6):Prop where
 F:Fun K x x st f fd
 m:mg x=some (.ref f)
 a:PySem.W.nsIn K Q6 x=some (some (.ref f))
theorem dn{K:PySem.W.Frag}{x:Str}{st:Rm}{sl:Array (Option b_)}{kV dc:b_}(X:K.In h)(G:h.Ns Q6 mg)(a:PySem.W.nsIn K Q6 x=some (some (.ref f)))(l:K.lookup f=some ⟨oc,od,.func (Uc x x (defArgs st) (defBody st) (defScope st) .none kV dc pm an cd ct),sl⟩)(c:W_ K cd x=true)(k:PySem.W.keepIn K (.ref f)=true):Dn K mg x st f (Uc x x (defArgs st) (defBody st) (defScope st) .none kV dc pm an cd ct):=⟨Gd l c k,PySem.W.mg_of X G a,a⟩
section
variable{P:u_}{w:C_}{K:PySem.W.Frag}{x:Str}{st:Rm}{k:Nat}{g:List R->Option (R×List R)}
theorem lenOf1{α:Type}{us:List α}(h:us.length=1):∃a,us=[a]:=by
 obtain⟨a,us,rfl⟩:=Rc h;exact⟨a,by rw[RG.mp (Tk h)]⟩
theorem lenOf2{α:Type}{us:List α}(h:us.length=2):∃a b,us=[a,b]:=by
 obtain⟨a,us,rfl⟩:=Rc h;obtain⟨b,rfl⟩:=lenOf1 (Tk h);exact⟨a,b,rfl⟩
theorem lenOf3{α:Type}{us:List α}(h:us.length=3):∃a b c,us=[a,b,c]:=by
 obtain⟨a,us,rfl⟩:=Rc h;obtain⟨b,c,rfl⟩:=lenOf2 (Tk h);exact⟨a,b,c,rfl⟩
theorem lenOf4{α:Type}{us:List α}(h:us.length=4):∃a b c d,us=[a,b,c,d]:=by
 obtain⟨a,us,rfl⟩:=Rc h;obtain⟨b,c,d,rfl⟩:=lenOf3 (Tk h);exact⟨a,b,c,d,rfl⟩
theorem lenOf5{α:Type}{us:List α}(h:us.length=5):∃a b c d e,us=[a,b,c,d,e]:=by
 obtain⟨a,us,rfl⟩:=Rc h;obtain⟨b,c,d,e,rfl⟩:=lenOf4 (Tk h);exact⟨a,b,c,d,e,rfl⟩
theorem Dn.b1{p:Str}(D:Dn K mg x st f fd)(h:∀(kV dc pm:b_) (an:Option g_) (cd ct a:b_),RL (Uc x x (defArgs st) (defBody st) (defScope st) .none kV dc pm an cd ct) ⟨[a],[]⟩=pure [(p,a)]:=by intros;rfl):Binds K fd [p] []:=D.F.binds λ_ _ _ _ _ _ us hl=>by obtain⟨a,rfl⟩:=lenOf1 hl;exact h _ _ _ _ _ _ a
theorem Dn.x1{cl:Nat->g_}{gx:List D->Option Nat}{p:Str}(D:Dn K mg x st f fd)(G:FnOk P w K mg base (CXX P w) k f fd [p] (spE K cl gx))(h:∀(kV dc pm:b_) (an:Option g_) (cd ct a:b_),RL (Uc x x (defArgs st) (defBody st) (defScope st) .none kV dc pm an cd ct) ⟨[a],[]⟩=pure [(p,a)]:=by intros;rfl):CdX P w K mg base cl k f fd [p] gx x:=⟨G,D.b1 h,D.F.kp,D.m⟩
theorem Dn.c1{p:Str}(D:Dn K mg x st f fd)(G:FnOk P w K mg base CX0 k f fd [p] (spD K g))(h:∀(kV dc pm:b_) (an:Option g_) (cd ct a:b_),RL (Uc x x (defArgs st) (defBody st) (defScope st) .none kV dc pm an cd ct) ⟨[a],[]⟩=pure [(p,a)]:=by intros;rfl):Cd P w K mg base k f fd [p] g x:=⟨G,D.b1 h,D.F.kp,D.m⟩
theorem Dn.b2{p:Str}(D:Dn K mg x st f fd)(h:∀(kV dc pm:b_) (an:Option g_) (cd ct a b:b_),RL (Uc x x (defArgs st) (defBody st) (defScope st) .none kV dc pm an cd ct) ⟨[a,b],[]⟩=pure [(p,a),(q,b)]:=by intros;rfl):Binds K fd [p,q] []:=D.F.binds λ_ _ _ _ _ _ us hl=>by obtain⟨a,b,rfl⟩:=lenOf2 hl;exact h _ _ _ _ _ _ a b
theorem Dn.x2{cl:Nat->g_}{gx:List D->Option Nat}{p:Str}(D:Dn K mg x st f fd)(G:FnOk P w K mg base (CXX P w) k f fd [p,q] (spE K cl gx))(h:∀(kV dc pm:b_) (an:Option g_) (cd ct a b:b_),RL (Uc x x (defArgs st) (defBody st) (defScope st) .none kV dc pm an cd ct) ⟨[a,b],[]⟩=pure [(p,a),(q,b)]:=by intros;rfl):CdX P w K mg base cl k f fd [p,q] gx x:=⟨G,D.b2 h,D.F.kp,D.m⟩
theorem Dn.c2{p:Str}(D:Dn K mg x st f fd)(G:FnOk P w K mg base CX0 k f fd [p,q] (spD K g))(h:∀(kV dc pm:b_) (an:Option g_) (cd ct a b:b_),RL (Uc x x (defArgs st) (defBody st) (defScope st) .none kV dc pm an cd ct) ⟨[a,b],[]⟩=pure [(p,a),(q,b)]:=by intros;rfl):Cd P w K mg base k f fd [p,q] g x:=⟨G,D.b2 h,D.F.kp,D.m⟩
theorem Dn.b3{p r:Str}(D:Dn K mg x st f fd)(h:∀(kV dc pm:b_) (an:Option g_) (cd ct a b c:b_),RL (Uc x x (defArgs st) (defBody st) (defScope st) .none kV dc pm an cd ct) ⟨[a,b,c],[]⟩=pure [(p,a),(q,b),(r,c)]:=by intros;rfl):Binds K fd [p,q,r] []:=D.F.binds λ_ _ _ _ _ _ us hl=>by obtain⟨a,b,c,rfl⟩:=lenOf3 hl;exact h _ _ _ _ _ _ a b c
theorem Dn.x3{cl:Nat->g_}{gx:List D->Option Nat}{p r:Str}(D:Dn K mg x st f fd)(G:FnOk P w K mg base (CXX P w) k f fd [p,q,r] (spE K cl gx))(h:∀(kV dc pm:b_) (an:Option g_) (cd ct a b c:b_),RL (Uc x x (defArgs st) (defBody st) (defScope st) .none kV dc pm an cd ct) ⟨[a,b,c],[]⟩=pure [(p,a),(q,b),(r,c)]:=by intros;rfl):CdX P w K mg base cl k f fd [p,q,r] gx x:=⟨G,D.b3 h,D.F.kp,D.m⟩
theorem Dn.c3{p r:Str}(D:Dn K mg x st f fd)(G:FnOk P w K mg base CX0 k f fd [p,q,r] (spD K g))(h:∀(kV dc pm:b_) (an:Option g_) (cd ct a b c:b_),RL (Uc x x (defArgs st) (defBody st) (defScope st) .none kV dc pm an cd ct) ⟨[a,b,c],[]⟩=pure [(p,a),(q,b),(r,c)]:=by intros;rfl):Cd P w K mg base k f fd [p,q,r] g x:=⟨G,D.b3 h,D.F.kp,D.m⟩
theorem Dn.b4{p r s:Str}(D:Dn K mg x st f fd)(h:∀(kV dc pm:b_) (an:Option g_) (cd ct a b c d:b_),RL (Uc x x (defArgs st) (defBody st) (defScope st) .none kV dc pm an cd ct) ⟨[a,b,c,d],[]⟩=pure [(p,a),(q,b),(r,c),(s,d)]:=by intros;rfl):Binds K fd [p,q,r,s] []:=D.F.binds λ_ _ _ _ _ _ us hl=>by obtain⟨a,b,c,d,rfl⟩:=lenOf4 hl;exact h _ _ _ _ _ _ a b c d
theorem Dn.x4{cl:Nat->g_}{gx:List D->Option Nat}{p r s:Str}(D:Dn K mg x st f fd)(G:FnOk P w K mg base (CXX P w) k f fd [p,q,r,s] (spE K cl gx))(h:∀(kV dc pm:b_) (an:Option g_) (cd ct a b c d:b_),RL (Uc x x (defArgs st) (defBody st) (defScope st) .none kV dc pm an cd ct) ⟨[a,b,c,d],[]⟩=pure [(p,a),(q,b),(r,c),(s,d)]:=by intros;rfl):CdX P w K mg base cl k f fd [p,q,r,s] gx x:=⟨G,D.b4 h,D.F.kp,D.m⟩
theorem Dn.c4{p r s:Str}(D:Dn K mg x st f fd)(G:FnOk P w K mg base CX0 k f fd [p,q,r,s] (spD K g))(h:∀(kV dc pm:b_) (an:Option g_) (cd ct a b c d:b_),RL (Uc x x (defArgs st) (defBody st) (defScope st) .none kV dc pm an cd ct) ⟨[a,b,c,d],[]⟩=pure [(p,a),(q,b),(r,c),(s,d)]:=by intros;rfl):Cd P w K mg base k f fd [p,q,r,s] g x:=⟨G,D.b4 h,D.F.kp,D.m⟩
theorem Dn.b5{p r s t:Str}(D:Dn K mg x st f fd)(h:∀(kV dc pm:b_) (an:Option g_) (cd ct a b c d e:b_),RL (Uc x x (defArgs st) (defBody st) (defScope st) .none kV dc pm an cd ct) ⟨[a,b,c,d,e],[]⟩=pure [(p,a),(q,b),(r,c),(s,d),(t,e)]:=by intros;rfl):Binds K fd [p,q,r,s,t] []:=D.F.binds λ_ _ _ _ _ _ us hl=>by obtain⟨a,b,c,d,e,rfl⟩:=lenOf5 hl;exact h _ _ _ _ _ _ a b c d e
theorem Dn.x5{cl:Nat->g_}{gx:List D->Option Nat}{p r s t:Str}(D:Dn K mg x st f fd)(G:FnOk P w K mg base (CXX P w) k f fd [p,q,r,s,t] (spE K cl gx))(h:∀(kV dc pm:b_) (an:Option g_) (cd ct a b c d e:b_),RL (Uc x x (defArgs st) (defBody st) (defScope st) .none kV dc pm an cd ct) ⟨[a,b,c,d,e],[]⟩=pure [(p,a),(q,b),(r,c),(s,d),(t,e)]:=by intros;rfl):CdX P w K mg base cl k f fd [p,q,r,s,t] gx x:=⟨G,D.b5 h,D.F.kp,D.m⟩
theorem Dn.c5{p r s t:Str}(D:Dn K mg x st f fd)(G:FnOk P w K mg base CX0 k f fd [p,q,r,s,t] (spD K g))(h:∀(kV dc pm:b_) (an:Option g_) (cd ct a b c d e:b_),RL (Uc x x (defArgs st) (defBody st) (defScope st) .none kV dc pm an cd ct) ⟨[a,b,c,d,e],[]⟩=pure [(p,a),(q,b),(r,c),(s,d),(t,e)]:=by intros;rfl):Cd P w K mg base k f fd [p,q,r,s,t] g x:=⟨G,D.b5 h,D.F.kp,D.m⟩
end
theorem all_mk{P:u_}{w:C_}{K:PySem.W.Frag}(sD:mg "law"=some (.ref fa)){f0 d0}(D0:Dn K mg "must_be_kin" zu f0 d0){f1 d1}(D1:Dn K mg "has_letter" zV f1 d1){f2 d2}(D2:Dn K mg "covers" zk f2 d2){f3 d3}(D3:Dn K mg "in_common" zY f3 d3){f4 d4}(D4:Dn K mg "roof_of" zC f4 d4){f5 d5}(D5:Dn K mg "is_under_another" CO f5 d5){f6 d6}(D6:Dn K mg "covered" Aw f6 d6){f7 d7}(D7:Dn K mg "looked_through" Ae f7 d7){f8 d8}(D8:Dn K mg "first_border" AH f8 d8){f9 d9}(D9:Dn K mg "halves_of" Cw f9 d9){f10 d10}(kt:Dn K mg "is_cuts" zd f10 d10){f11 d11}(jj:Dn K mg "is_right_for" Ar f11 d11){f12 d12}(kx:Dn K mg "spare_of" zO f12 d12){f13 d13}(kA:Dn K mg "fewest_of" zw f13 d13){f14 d14}(jk:Dn K mg "looked_for" yX f14 d14){f15 d15}(mY:Dn K mg "letter_left" Cr f15 d15){f16 d16}(po:Dn K mg "having" Bj f16 d16){f17 d17}(kB:Dn K mg "is_fewest" zR f17 d17){f18 d18}(jl:Dn K mg "letters_in" zh f18 d18){f19 d19}(jm:Dn K mg "is_right_tree" Ac f19 d19){f20 d20}(pp:Dn K mg "_law_blend" Bf f20 d20){f21 d21}(pq:Dn K mg "_law_pot" B1 f21 d21){f22 d22}(pt:Dn K mg "_law_pick" AT f22 d22){f23 d23}(pw:Dn K mg "_law_wish" A5 f23 d23){f24 d24}(px:Dn K mg "_law_wishes" Bk f24 d24){f25 d25}(pz:Dn K mg "_law_nudged" BF f25 d25){f26 d26}(pA:Dn K mg "_law_kind" Cq f26 d26){f27 d27}(kC:Dn K mg "_law_asked" yV f27 d27){f28 d28}(pB:Dn K mg "_law_told" CJ f28 d28){f29 d29}(pC:Dn K mg "_law_due" B2 f29 d29){f30 d30}(pD:Dn K mg "_law_put" AX f30 d30){f31 d31}(pE:Dn K mg "_law_made_right" BC f31 d31){f32 d32}(mZ:Dn K mg "law" Az f32 d32)(bR:mg "ValueError"=none)(aW:mg "all"=none)(ge:mg "any"=none)(aU:mg "enumerate"=none)(aq:mg "isinstance"=none)(aj:mg "len"=none)(aY:mg "list"=none)(ba:mg "max"=none)(aG:mg "min"=none)(aF:mg "range"=none)(dS:mg "set"=none)(aN:mg "sorted"=none)(aE:mg "tuple"=none)(aL:mg "zip"=none)(EX:Exs K mg){fI dI}(DI:Fun K "__init__" "NoLog.__init__" wu fI dI)(LI:XLog K fI)(T0:(Td K "letter_left").isSome=true):
  ∃fd:R6,(∀(s:c_) (v:b_),Wg s fd ⟨[v],[]⟩ [("script", v)])/\∀base:K_,K.In base->base.Ns Q6 mg->FnOk P w K mg base CX0 67 fa fd ["script"] (spD K wX):=by
 cases sD.symm.trans mZ.m;obtain⟨⟨cT,PT⟩,T0⟩:=SV.mp T0;refine⟨d32,λs v=>?_,λbase _ _=>?_⟩
 ·obtain⟨_,_,_,_,_,_,_,_,_,rfl,_,_⟩:=mZ.F.ex;exact .of_eq rfl
 have sE:=pq.c1 (Kb (P:=P) (w:=w) (base:=base) pq.F aY aU);have sF:=pp.c2 (Lv (P:=P) (w:=w) (base:=base) pp.F );have hZ:=pt.c2 (IA pt.F sF aj);have pF:=pw.c4 (NU pw.F hZ aF aG ba aE);have sH:=pz.c2 (Ob pz.F hZ aj ba aG);have sJ:=px.c3 (OY px.F hZ pF sH aG aF aj);have sK:=pD.c3 (KJ pD.F hZ aj);have sL:=pC.c5 (LN (P:=P) (w:=w) (base:=base) pC.F aj ba aG);have C0:=D0.c1 (J3 (P:=P) (w:=w) (base:=base) D0.F EX aj);have X0:=D0.x1 (Jq (P:=P) (w:=w) (base:=base) D0.F EX aj);have C1:=D1.c2 (Je D1.F C0 aL aW);have X1:=D1.x2 (HC D1.F C0 aL aW X0);have C2:=D2.c2 (NZ D2.F C0 aL aW);have X2:=D2.x2 (Lj D2.F C0 aL aW X0);have C3:=D3.c2 (OW D3.F C0 aL ba aG aE);have X3:=D3.x2 (K5 D3.F C0 aL ba aG aE X0);have C8:=D8.c2 (NP (P:=P) (w:=w) (base:=base) D8.F aU aG);have C9:=D9.c3 (HB (P:=P) (w:=w) (base:=base) D9.F );have C7:=D7.c3 (Fo D7.F C3 C2 C8 C9 aj aE D7.b3 D7.F.kp D7.m 40);have C6:=D6.c2 (Ll D6.F C0 C7 aj aY aF);have X6:=D6.x2 (OT D6.F C0 C7 aj aY aF X0);have pG:=jj.c3 (Eh jj.F C2 C9 aj jj.b3 jj.F.kp jj.m 10);have pH:=kt.c3 (Ku kt.F C0 pG);have sM:=kt.x3 (HI kt.F C0 pG X0);have C5:=D5.c2 (LC D5.F C2 ge);have C4:=D4.c1 (Ki D4.F C0 C5 aN dS);have X4:=D4.x1 (O7 D4.F C0 C5 aN dS X0);have pI:=kx.c1 (Mu kx.F C4 C6);have sN:=kx.x1 (MJ kx.F C4 C6 X4);have m8:=po.c2 (LY po.F C1);have m9:=mY.c2 (O8 mY.F mY.a T0 C6 m8 aG aj);have pJ:=jk.c3 (Ez jk.F m9 m8 aN jk.b3 jk.F.kp jk.m 10);have pK:=kA.c1 (NA kA.F C4 pJ);have sO:=kA.x1 (M3 kA.F C4 pJ X4);have pL:=jl.c1 (Gu (P:=P) (w:=w) (base:=base) jl.F jl.b1 jl.F.kp jl.m 10);have pM:=jm.c4 (EG jm.F m8 aj aL aW jm.b4 jm.F.kp jm.m 10);have pN:=kB.c2 (HP kB.F C0 pL C4 pM m9 aj);have sP:=kB.x2 (JQ kB.F C0 pL C4 pM m9 aj X4 X0);have sQ:=kC.c5 (II kC.F C1 C2 C3 C6 pH C4 pI pK pN);have sR:=kC.x5 (N9 kC.F C1 C2 C3 C6 pH C4 pI pK pN sP sO sN X4 sM X6 X3 X2 X1);have pO:=pA.c1 (Iu (P:=P) (w:=w) (base:=base) pA.F EX aq bR);have sS:=pB.c5 (JJ pB.F sQ pO sR EX aY);have sT:=pE.c1 (Jh pE.F hZ pO EX (Js DI LI EX));exact NW mZ.F sE hZ pF sJ sK sL sS sT aF aE
theorem walk{l:PySem.W.OpenLaw}{q:u_}{XP:(Str->Option b_)->K_->Prop}{YP:C_->K_->Prop}{d:DefRec}{K:Params->PySem.W.Frag}(pP:∀ns:List Int,ns.length<=63->∃rs,wX [.val (.lst (ns.map D.int))]=some (.val (.bl true),rs))(hn:l.most=some 63)(iu:d.params.defaults=[])(bU:∃d',(recsOf q).find? (λe=>e.name == ("letter_left":Str))=some d')(iL:∀p,noTabs (K p)=true)(hY:∀(w:C_) (h:K_),YP w h->(K w.params).In h)(F:∀(w:C_) (mg:Str->Option b_) (fa:g_) (h:K_),(K w.params).In h->h.Ns Q6 mg->mg d.name=some (.ref fa) →
   ∃fd:R6,(∀(s:c_) (u:b_),Wg s fd ⟨[u],[]⟩ [("script", u)])/\∀base:K_,(K w.params).In base->base.Ns Q6 mg->FnOk l.prog w (K w.params) mg base CX0 67 fa fd ["script"] (spD (K w.params) wX)):
  PySem.W.WalkO q cU XP YP l.row.toRowW d [] (λf vs=>PySem.call f vs):=
 OO (n:=63) (k:=67) (x:= "script") (CX:=λ_=>CX0) (sp:=λw=>spD (K w.params) wX) hn (by decide) iu ⟨rfl,by decide,by decide,rfl⟩ bU iL hY F (λ_ H a ns hl hS=>LW hS (pP ns hl)) λ_ _ _ _ _ z=>z
end Own
namespace Own
open DL L2
@[simp] theorem Gv:∀xs:List Int,depA (xs.map D.int)=0
 | []=>rfl
 | x::xs=>by rw[Q7,depA,Gv xs];rfl
@[simp] theorem Px(xs:List Int):dep (.lst (xs.map D.int))=1:=by rw[dep,Gv]
@[simp] theorem P9{b:Bool}:isNF b d .non=some (.bl (if b then !isN d else isN d)):=rfl
@[simp ↓] theorem Qm{α:Type}{F:D->Option α}{g:M D}{Q:α->Gm->Prop}:wp (un1 F g) Γ Q↔wp g Γ λd Γ1=>wp (lft (F d)) Γ1 Q:=by simp[un1]
@[simp] theorem Qv{i:Int}:negI (.int i)=some (.int (-i)):=rfl
def PotOk(c:List D):Prop:=∃(ns:List Int) (at_ af:Int),c=[.lst (ns.map .int),.int at_,.int af]/\0<=at_
theorem Mw(a b:Int):∃z,cvF yA [.int a,.int b]=some (.int z):=by
 have:wpF yA [.val (.int a),.val (.int b)] λr _=>∃z,r=.val (.int z):=by
  refine vG rfl λKE hE _=>?_
  rw[Bu];refine uN ?_;rintro K hK hR;simp;split
  ·exact hR _ _ (hE _ _ ⟨_,rfl,_,rfl⟩)
  ·refine hK _ ?_;refine uN ?_;rintro K hK -;simp;refine hK _ ?_;have l1:=UH (a % 998244353*40692+b*69621+1009) (show(2147483399:Int)≠0 by decide);have u1:=Tn (a % 998244353*40692+b*69621+1009) (show(0:Int) < 2147483399 by decide);generalize (a % 998244353*40692+b*69621+1009) % 2147483399=x at *;refine uN ?_;rintro K hK -;simp;refine⟨by omega,hK _ ?_⟩;have l2:=UH (x*x+b*48271+a % 131071) (show(2147483647:Int)≠0 by decide);have u2:=Tn (x*x+b*48271+a % 131071) (show(0:Int) < 2147483647 by decide);generalize (x*x+b*48271+a % 131071) % 2147483647=y at *;refine uN ?_;rintro K hK -;simp;refine⟨by omega,hK _ ?_⟩;generalize (y*y+x*17+3) % 2147483629=z at *;simp;exact hE _ _ ⟨_,rfl,_,rfl⟩
 obtain⟨r,aZ,e,z,rfl⟩:=this;exact⟨z,by unfold cvF;simp only[map];rw[e]⟩
theorem vv{u:Int}{Q:R->List D->Prop}(hc:PotOk c)(h1:1<=u)(h2:u < 2 ^ 200)(k:∀n c',0<=n->n < u->PotOk c'->Q (.val (.int n)) c'):wpB vg c [.int u] Q:=by
 obtain⟨ns,at_,af,rfl,h0⟩:=hc;refine xt rfl λKE hE _=>?_
 rw[AL];refine wt (λΓ1=>∃nc lh x y z,0<=nc/\Γ1=[some (.bor [.lst (ns.map .int),.int nc,.int lh]),some (.val (.int u)),x,y,z]) (λK hK _=>?_) ?_
 ·simp[isMut,R.mut];split
  ·refine uN λK1 eX _=>?_
   simp[isMut,R.mut];refine eX _ ?_;refine uN λK1 eX _=>?_
   simp[isMut,R.mut];refine eX _ ?_;refine wt (λΓ1=>∃m,Γ1=[some (.bor [.lst (ns.map .int),.int at_,.int af]),some (.val (.int u)),some (.val (.int at_)),some (.val (.int m)),none]) (λK1 eX _=>?_) ?_
   ·simp[isMut,R.mut];split
    ·rename_i h;obtain⟨a,e,m⟩:=BZ (ds:=ns.map D.int) h0 (by simpa using h);obtain⟨b,_,rfl⟩:=Re.mp m;rw[vp e];simp;exact eX _ ⟨_,rfl⟩
    ·rename_i h;split
     ·exact eX _ ⟨_,rfl⟩
     ·rename_i h';have hl:0 < ns.length:=by cases ns with | nil=>simp at h' | cons=>simp
      refine⟨by omega,?_⟩;obtain⟨a,e,m⟩:=BZ (ds:=ns.map D.int) (i:=(at_*7+1) % (ns.length:Int)) (UH _ (by omega)) (by simpa using Tn _ (by omega));obtain⟨b,_,rfl⟩:=Re.mp m;rw[vp e];simp;exact⟨by omega,eX _ ⟨_,rfl⟩⟩
   ·rintro Γ1 ⟨m,rfl⟩;refine uN λK1 eX _=>?_
    simp[isMut,R.mut];refine eX _ ?_;obtain⟨z,e⟩:=Mw m at_;simp[isMut,R.mut,e];exact hK _ ⟨_,_,_,_,_,by omega,rfl⟩
  ·exact hK _ ⟨_,_,_,_,_,h0,rfl⟩
 ·rintro Γ1 ⟨nc,lh,x,y,z,h3,rfl⟩;refine uN ?_;rintro K hK -;simp[isMut,R.mut];refine⟨by omega,hK _ ?_⟩;refine uN ?_;rintro K hK -;simp[isMut,R.mut];refine⟨⟨by omega,by simpa using h2⟩,hK _ ?_⟩;simp;exact hE _ _ _ ⟨_,rfl⟩ (k _ _ (UH _ (by omega)) (Tn _ (by omega)) ⟨_,_,_,rfl,h3⟩)
theorem yB{xs:List D}{i:Nat}(h:(numD m xs)[i]?=some d):∃x,xs[i]?=some x/\d=.tup [.int ((m+i:Nat):Int),x]:=by
 induction xs generalizing m i with
 | nil=>simp[numD] at h
 | cons a xs ih =>
  cases i with
  | zero=>simp[numD] at h;exact⟨a,rfl,h.symm⟩
  | succ i =>
   simp only[numD,RP] at h;obtain⟨x,e1,e2⟩:=ih h;exact⟨x,by simpa using e1,by rw[e2,show m+1+i=m+(i+1) from by omega]⟩
theorem EK{α:Type}{f:α->D}{xs:List α}{lo:Option Int}:∃ys:List α,cutD (xs.map f) lo hi=ys.map f/\(∀y∈ys,y∈xs)/\ys.length=min (HT.sIx xs.length xs.length hi - HT.sIx xs.length 0 lo) (xs.length - HT.sIx xs.length 0 lo):=by
 refine⟨(xs.drop (HT.sIx xs.length 0 lo)).take (HT.sIx xs.length xs.length hi - HT.sIx xs.length 0 lo),?_,?_,?_⟩
 ·unfold cutD;simp[W8,VP]
 ·intro y h;exact S1 (R4 h)
 ·simp
theorem Nj(ns:List Int):∃d,coF yK [.lst (ns.map .int)]=some d/\PotOk d:=by
 refine Ff ?_;unfold yK;refine Ag rfl ?_;rw[Bd];refine uN λK hK _=>?_
 simp;refine hK _ ?_;obtain⟨cs,e,-,hl⟩:=EK (f:=D.int) (xs:=ns) (lo:=none) (hi:=some 12);rw[e]
 have eD:cs.length=min 12 ns.length:=by
  rw[hl];simp[HT.sIx]
 refine wt (λΓ1=>∃cs,∃x y z,Γ1=[x,some (.own (map D.int cs)),y,z]) (λK hK _=>?_) ?_
 ·simp;obtain⟨ms,e,-,hm⟩:=EK (f:=D.int) (xs:=ns) (lo:=some 12) (hi:=some 63);rw[e];refine Gz (J:=λi Γ=>∃cs:List Int,∃y z,cs.length=min 12 ns.length/\Γ=[some (.val (.lst (ns.map .int))),some (.own (cs.map .int)),y,z]) ⟨cs,_,_,eD,rfl⟩ ?_ ?_
  ·rintro i d Γ hd ⟨cs,y,z,hc,rfl⟩;obtain⟨x,e1,rfl⟩:=yB hd;rw[y_,RF] at e1;obtain⟨n,e1,rfl⟩:=e1;have hi:i < ms.length:=(n_.mp e1).1
   have uB:12 < ns.length:=by
    simp[HT.sIx] at hm;omega
   simp[isMut,R.mut];have lA:cs.length=12:=by omega
   have sU:((i:Int) % 12)=((i % 12:Nat):Int):=by omega
   rw[sU];have bz:i % 12 < cs.length:=by omega
   rw[vp (a:=D.int cs[i % 12]) (by rw[vX];simp[bz])];simp;refine⟨(cs.set (i % 12) (cs[i % 12]+n)).map .int,?_,?_⟩
   ·unfold stF L2.ixN;rw[if_pos (by omega),if_pos (by simp;omega),show((i:Int) % 12).toNat=i % 12 from by omega];simp
   ·exact⟨cs.set (i % 12) (cs[i % 12]+n),by simpa using hc,by simp⟩
  ·rintro Γ ⟨cs,y,z,hc,rfl⟩;exact hK _ ⟨cs,_,_,_,rfl⟩
 ·rintro Γ1 ⟨cs,x,y,z,rfl⟩;simp[flR,fin];exact⟨cs,0,0,rfl,by omega⟩
noncomputable def pairD(p:Int×Int):D:=.tup [.int p.1,.int p.2]
noncomputable def wishD(w:List (Int×Int)):D:=.tup (w.map pairD)
noncomputable def letD(l:List Int):D:=.tup (l.map .int)
structure PairOk(p:Int×Int):Prop where
 lo:0<=p.1
 le:p.1<=p.2
 hi:p.2<=9
structure Wf(n:Nat)(w:List (Int×Int)):Prop where
 len:w.length=n
 all:∀p∈w,PairOk p
theorem Bt{lo:Int}{i:Nat}(h:(rngD lo n)[i]?=some d):d=.int (lo+i)/\i < n:=by
 unfold rngD at h;rw[y_,RF] at h;obtain⟨k,h1,rfl⟩:=h;obtain⟨h2,h3⟩:=n_.mp h1;rw[UO] at h3;subst h3;exact⟨rfl,by simpa using h2⟩
@[simp] theorem F9{lo:Int}:(rngD lo n).length=n:=by simp[rngD]
theorem Wf.app{w:List (Int×Int)}(h:Wf n w){p:Int×Int}(hp:PairOk p):Wf (n+1) (w++[p]):=by
 refine⟨by simp[h.len],λq hq=>?_⟩
 rcases Q8.mp hq with h1 | h1
 ·exact h.all q h1
 ·rw[q_.mp h1];exact hp
theorem zG{f:Nat}{top:Int}{Q:R->List D->Prop}(hc:PotOk c)(hf:f<=100)(h1:0<=low)(h2:1<=top)(h3:low+top<=10)(k:∀w c',Wf f w->PotOk c'->Q (.val (wishD w)) c'):wpB xi c [.int f,.int low,.int top] Q:=by
 refine xt rfl λKE hE _=>?_
 rw[Ct];refine uN ?_;rintro K hK -;refine⟨_,_,rfl,hK _ ?_⟩;show wp _ [some (.bor c),some (.val (.int f)),some (.val (.int low)),some (.val (.int top)),some (.own []),none,none,none] _;refine uN ?_;rintro K hK -;simp;refine⟨by omega,?_⟩;refine vU (J:=λi Γ=>∃c w x y z,PotOk c/\Wf i w/\Γ=[some (.bor c),some (.val (.int f)),some (.val (.int low)),some (.val (.int top)),some (.own (w.map pairD)),x,y,z]) ⟨c,[],_,_,_,hc,⟨rfl,by simp⟩,rfl⟩ ?_ ?_
 ·rintro i d Γ hd ⟨c,w,x,y,z,hc,hw,rfl⟩ KL bq - - -;obtain⟨rfl,hi⟩:=Bt hd;simp;refine uN ?_;rintro K hK -;simp[isMut,R.mut];refine vv hc h2 (by omega) λn c' gr ft aO=>?_
  simp;refine hK _ ?_;refine uN ?_;rintro K hK -;simp[isMut,R.mut];refine vv aO h2 (by omega) λm pQ dM fx jo=>?_
  simp;refine hK _ ?_;simp[isMut,R.mut];refine⟨by have:=hw.len;omega,bq _ ?_⟩;exact⟨_,w++[(low+min n m,low+max n m)],_,_,_,jo,hw.app ⟨by simp;omega,by simp;omega,by simp;omega⟩,by rw[SM];rfl⟩
 ·rintro Γ ⟨c,w,x,y,z,hc,hw,rfl⟩;refine hK _ ?_;rw[F9] at hw;simp;exact hE _ _ _ ⟨_,rfl⟩ (k w c hw hc)
theorem J0{f:Nat}{w:List (Int×Int)}{Q:R->List D->Prop}(hc:PotOk c)(hw:Wf f w)(h0:1<=f)(hf:f<=100)(k:∀w c',Wf f w->PotOk c'->Q (.val (wishD w)) c'):wpB yU c [wishD w] Q:=by
 refine xt rfl λKE hE _=>?_
 rw[Bp];refine uN ?_;rintro K hK -;simp[isMut,R.mut,wishD];refine vv hc (by rw[hw.len];omega) (by rw[hw.len];omega) λn c' gr ft aO=>?_
 simp;refine hK _ ?_;obtain⟨n,rfl⟩:=U9 gr;have hn:n < w.length:=by omega
 obtain⟨p,hp⟩:∃p,w[n]?=some p:=⟨_,h_ hn⟩;have nn:PairOk p:=hw.all p (Rg hp);have e1:atI (w.map pairD) (n:Int)=some (pairD p):=by rw[DL.vX];simp[hp]
 refine uN ?_;rintro K hK -;simp[e1];simp[pairD];refine hK _ ?_;refine uN ?_;rintro K hK -;refine⟨_,_,rfl,hK _ ?_⟩;show wp _ [some (R.bor c'),some (R.val (D.tup (w.map pairD))),some (.val (.int n)),some (.val (.int p.1)),some (.val (.int p.2)),some (.val (.lst [D.tup [.int (if p.1 - 1 > 0 then p.1 - 1 else 0),.int p.2],.tup [.int p.1,.int (if p.2+1 < 9 then p.2+1 else 9)],.tup [.int (if p.2 < p.1+1 then p.2 else p.1+1),.int p.2],.tup [.int p.1,.int (if p.2 - 1 > p.1 then p.2 - 1 else p.1)]]))] _
 have bp:∀m:Int,0<=m->m < 4->∃q,PairOk q/\atI [D.tup [.int (if p.1 - 1 > 0 then p.1 - 1 else 0),.int p.2],.tup [.int p.1,.int (if p.2+1 < 9 then p.2+1 else 9)],.tup [.int (if p.2 < p.1+1 then p.2 else p.1+1),.int p.2],.tup [.int p.1,.int (if p.2 - 1 > p.1 then p.2 - 1 else p.1)]] m=some (pairD q):=λm dM fx=>by
  have:=nn.lo;have:=nn.le;have:=nn.hi;have:m=0\/m=1\/m=2\/m=3:=by omega
  rcases this with rfl | rfl | rfl | rfl
  ·exact⟨(if p.1 - 1 > 0 then p.1 - 1 else 0,p.2),⟨by dsimp only;split<;>omega,by dsimp only;split<;>omega,by dsimp only;omega⟩,rfl⟩
  ·exact⟨(p.1,if p.2+1 < 9 then p.2+1 else 9),⟨by dsimp only;omega,by dsimp only;split<;>omega,by dsimp only;split<;>omega⟩,rfl⟩
  ·exact⟨(if p.2 < p.1+1 then p.2 else p.1+1,p.2),⟨by dsimp only;split<;>omega,by dsimp only;split<;>omega,by dsimp only;omega⟩,rfl⟩
  ·exact⟨(p.1,if p.2 - 1 > p.1 then p.2 - 1 else p.1),⟨by dsimp only;omega,by dsimp only;split<;>omega,by dsimp only;split<;>omega⟩,rfl⟩
 generalize [D.tup [.int (if p.1 - 1 > 0 then p.1 - 1 else 0),.int p.2],.tup [.int p.1,.int (if p.2+1 < 9 then p.2+1 else 9)],.tup [.int (if p.2 < p.1+1 then p.2 else p.1+1),.int p.2],.tup [.int p.1,.int (if p.2 - 1 > p.1 then p.2 - 1 else p.1)]]=ps at bp ⊢;have e2:slF (.tup (w.map pairD)) none (some (n:Int))=some (.tup ((w.map pairD).take n)):=F8 (by simpa using hn);have e3:slF (.tup (w.map pairD)) (some ((n:Int)+1)) none=some (.tup ((w.map pairD).drop (n+1))):=DU (n:=n+1) (by simp;omega) (by omega);simp[isMut,R.mut,e2];refine vv aO (by omega) (by omega) λm pQ dM fx jo=>?_
 obtain⟨q,hq,eq⟩:=bp m dM fx;simp[eq,e3];refine⟨by have:=hw.len;omega,by have:=hw.len;omega,hE _ _ _ ⟨_,rfl⟩ ?_⟩;have:=k (w.take n++[q]++w.drop (n+1)) pQ ⟨by have:=hw.len;simp;omega,λr hr=>?_⟩ jo
 ·simpa[wishD,VP,W8] using this
 ·simp at hr
  rcases hr with h | h | h
  ·exact hw.all r (R4 h)
  ·rw[h];exact hq
  ·exact hw.all r (S1 h)
theorem E8{α:Type}{f:α->D}{xs:List α}{i:Int}(h0:0<=i)(h1:i < xs.length):∃x,x∈xs/\atI (xs.map f) i=some (f x):=by
 obtain⟨a,e,m⟩:=BZ (ds:=xs.map f) h0 (by simpa using h1);obtain⟨b,hb,rfl⟩:=Re.mp m;exact⟨b,hb,e⟩
theorem CN(h:∀d∈ds,dep d<=n):depA ds<=n:=by
 induction ds with
 | nil=>simp[depA]
 | cons d ds ih =>
  rw[depA];have h1:=h d v_;have h2:=ih λd hd=>h d (s_ _ hd)
  omega
theorem wV{w:List (Int×Int)}:dep (wishD w)<=2:=by
 unfold wishD;rw[dep]
 have:depA (w.map pairD)<=1:=CN λd hd=>by
  obtain⟨p,_,rfl⟩:=Re.mp hd;unfold pairD;simp[dep,depA]
 omega
theorem xx:dep (.lst (ws.map wishD))<=3:=by
 rw[dep]
 have:depA (ws.map wishD)<=2:=CN λd hd=>by
  obtain⟨w,_,rfl⟩:=Re.mp hd;exact wV
 omega
theorem Ht{f:Nat}{Q:R->List D->Prop}(hc:PotOk c)(h0:1<=f)(hf:f<=3)(h1:0<=most)(h2:most<=100)(k:∀(ws:List (List (Int×Int))) c',(∀w∈ws,Wf f w)->(ws.length:Int)<=most->PotOk c'->Q (.val (.lst (ws.map wishD))) c'):wpB zt c [.int f,.int most] Q:=by
 refine xt rfl λKE hE _=>?_
 rw[CA];refine uN ?_;rintro K hK -;simp[isMut,R.mut];refine vv hc (by omega) (by omega) λn c' gr ft aO=>?_
 simp
 have e1:∃t:Int,1<=t/\t<=10/\atI [D.int 2,D.int 3,D.int 4,D.int 10] n=some (.int t):=by
  have:n=0\/n=1\/n=2\/n=3:=by omega
  rcases this with rfl | rfl | rfl | rfl
  ·exact⟨2,by omega,by omega,rfl⟩
  ·exact⟨3,by omega,by omega,rfl⟩
  ·exact⟨4,by omega,by omega,rfl⟩
  ·exact⟨10,by omega,by omega,rfl⟩
 obtain⟨t,uC,uD,e1⟩:=e1
 have e2:∃t:Int,1<=t/\t<=10/\atI [D.int 10,D.int 10,D.int 10,D.int 4] (f:Int)=some (.int t):=by
  have:f=1\/f=2\/f=3:=by omega
  rcases this with rfl | rfl | rfl
  ·exact⟨10,by omega,by omega,rfl⟩
  ·exact⟨10,by omega,by omega,rfl⟩
  ·exact⟨4,by omega,by omega,rfl⟩
 obtain⟨t',tT,tU,e2⟩:=e2;simp[e1,e2];refine hK _ ?_;refine uN ?_;rintro K hK -;simp[isMut,R.mut];refine vv aO (by omega) (by omega) λlow c' dN eD aO=>?_
 simp;refine hK _ ?_;refine uN ?_;rintro K hK -;simp;refine hK _ ?_;refine uN ?_;rintro K hK -;simp[isMut,R.mut];refine vv aO (by omega) (by omega) λtV c' dM fx aO=>?_
 simp;refine⟨by omega,?_⟩;refine vU (J:=λi Γ=>∃(c:List D) (ws:List (List (Int×Int))) (x y z:Option R),PotOk c/\(∀w∈ws,Wf f w)/\ws.length=i/\Γ=[some (.bor c),some (.val (.int f)),some (.val (.int most)),some (.val (.int (min t t'))),some (.val (.int low)),some (.own (ws.map wishD)),x,y,z]) ⟨c',[],_,_,_,aO,by simp,rfl,rfl⟩ ?_ ?_
 ·rintro i d Γ hd ⟨c,ws,x,y,z,hc,aP,hi,rfl⟩ KL bq - - -;obtain⟨rfl,cN⟩:=Bt hd;simp;refine uN ?_;rintro K hK -;simp[isMut,R.mut];refine vv hc (by omega) (by omega) λway c' uE uF aO=>?_
  simp;refine hK _ ?_;refine uN ?_;rintro K hK -;simp[isMut,R.mut];refine zG aO (by omega) dN (by omega) (by omega) λw c' hw aO=>?_
  simp;refine hK _ ?_;refine wt (λΓ=>∃(c:List D) (w:List (Int×Int)) (x:Option R),PotOk c/\Wf f w/\Γ=[some (.bor c),some (.val (.int f)),some (.val (.int most)),some (.val (.int (min t t'))),some (.val (.int low)),some (.own (ws.map wishD)),x,some (.val (.int way)),some (.val (wishD w))]) ?_ ?_
  ·rintro K hK -;simp[isMut,R.mut];split
   ·split
    ·exact⟨z_ xx (by decide),hK _ ⟨_,_,_,aO,hw,rfl⟩⟩
    ·rename_i eJ;have pR:0 < ws.length:=Sf.mpr eJ;refine⟨z_ xx (by decide),vv aO (by omega) (by omega) λn c' gr ft aO=>?_⟩;obtain⟨w',fE,e⟩:=E8 (f:=wishD) gr ft;simp[e];exact hK _ ⟨_,_,_,aO,aP _ fE,rfl⟩
   ·exact hK _ ⟨_,_,_,aO,hw,rfl⟩
  ·rintro Γ ⟨c,w,x,hc,hw,rfl⟩;refine wt (λΓ=>∃(c:List D) (w:List (Int×Int)) (x y:Option R),PotOk c/\Wf f w/\Γ=[some (.bor c),some (.val (.int f)),some (.val (.int most)),some (.val (.int (min t t'))),some (.val (.int low)),some (.own (ws.map wishD)),x,y,some (.val (wishD w))]) ?_ ?_
   ·rintro K hK -;simp[isMut,R.mut];split
    ·split
     ·exact⟨z_ xx (by decide),hK _ ⟨_,_,_,_,hc,hw,rfl⟩⟩
     ·rename_i eJ;have pR:0 < ws.length:=Sf.mpr eJ;refine⟨z_ xx (by decide),vv hc (by omega) (by omega) λn c' gr ft aO=>?_⟩;obtain⟨w',fE,e⟩:=E8 (f:=wishD) gr ft;simp[e];refine J0 aO (aP _ fE) h0 (by omega) λw c' hw aO=>?_
      simp;exact hK _ ⟨_,_,_,_,aO,hw,rfl⟩
    ·exact hK _ ⟨_,_,_,_,hc,hw,rfl⟩
   ·rintro Γ ⟨c,w,x,y,hc,hw,rfl⟩;simp[isMut,R.mut];refine⟨by omega,bq _ ⟨_,ws++[w],_,_,_,hc,λv hv=>?_,by simp;omega,by rw[SM];rfl⟩⟩
    rcases Q8.mp hv with h | h
    ·exact aP v h
    ·rw[q_.mp h];exact hw
 ·rintro Γ ⟨c,ws,x,y,z,hc,aP,hi,rfl⟩;refine hK _ ?_;rw[F9] at hi;simp;exact hE _ _ _ ⟨_,rfl⟩ (k ws c aP (by omega) hc)
noncomputable def hasB(w:List (Int×Int))(l:List Int):Bool:=(w.zip l).all λq=>decide (q.1.1<=q.2)&&decide (q.2<=q.1.2)
noncomputable def covB(a b:List (Int×Int)):Bool:=(a.zip b).all λq=>decide (q.1.1<=q.2.1)&&decide (q.2.2<=q.1.2)
@[simp] theorem Qd{α:Type}{xs:List α}:List.filter (λ_=>true) xs=xs:=by
 induction xs with
 | nil=>rfl
 | cons x xs ih=>simp
@[simp] theorem QH{p:Int×Int}:ixF (pairD p) (.int 0)=some (.int p.1):=rfl
@[simp] theorem Pi{p:Int×Int}:ixF (pairD p) (.int 1)=some (.int p.2):=rfl
theorem yj(h:∀d∈ds,∃xs:List D,d=.tup xs/\xs.length=n):cvF vz [.lst ds]=some .non:=by
 refine vS rfl λK _ k2=>?_
 rw[Ce];simp;refine vU (J:=λi Γ=>∃x,Γ=[some (.val (.lst ds)),x]) ⟨_,rfl⟩ ?_ ?_
 ·rintro i d Γ hd ⟨x,rfl⟩ KL bq - - -;obtain⟨xs,rfl,hx⟩:=h d (Rg hd);cases ds with
  | nil=>simp at hd
  | cons d0 ds =>
   obtain⟨ys,rfl,hy⟩:=h d0 v_;simp[hx,hy];exact bq _ ⟨_,rfl⟩
 ·rintro Γ ⟨x,rfl⟩;exact k2 _ rfl ⟨_,rfl⟩
theorem Cj{a b:List D}(h:a.length=b.length):cvF vz [.lst [.tup a,.tup b]]=some .non:=
 yj (n:=a.length) (by simp[h])
theorem Al{a b:List (Int×Int)}(h:a.length=b.length)(hl:a.length<=1000):cvF wR [wishD a,wishD b]=some (.bl (covB a b)):=by
 refine vS rfl λK k1 _=>?_
 rw[BL];refine uN ?_;rintro K hK -;simp[wishD,Cj,h];refine hK _ ?_;simp;refine FU (a.zip b) (λq=>.tup [pairD q.1,pairD q.2]) (λ_=>true) (λq=>.bl (decide (q.1.1<=q.2.1)&&decide (q.2.2<=q.1.2))) ?_;simp[BP];refine⟨by omega,?_,?_⟩
 ·rintro a b n m hm;split<;>omega
 ·rw[GA];simp;exact k1 _ ⟨_,rfl⟩
theorem Fk{w:List (Int×Int)}{l:List Int}(h:w.length=l.length)(hl:w.length<=1000):cvF xJ [wishD w,letD l]=some (.bl (hasB w l)):=by
 refine vS rfl λK k1 _=>?_
 rw[AE];refine uN ?_;rintro K hK -;simp[wishD,letD,Cj,h];refine hK _ ?_;simp;refine FU (w.zip l) (λq=>.tup [pairD q.1,.int q.2]) (λ_=>true) (λq=>.bl (decide (q.1.1<=q.2)&&decide (q.2<=q.1.2))) ?_;simp[BP];refine⟨by omega,?_,?_⟩
 ·rintro a b n hm;split<;>omega
 ·rw[GA];simp;exact k1 _ ⟨_,rfl⟩
noncomputable def mixB(a b:List (Int×Int)):List (Int×Int):=(a.zip b).map λq=>(max q.1.1 q.2.1,min q.1.2 q.2.2)
noncomputable def okB(w:List (Int×Int)):Bool:=w.all λp=>decide (p.1<=p.2)
noncomputable def leftB(ws:List (List (Int×Int)))(l:List Int):Bool:=ws.all λw=>!hasB w l
noncomputable def hv1(p:List (Int×Int))(f:Nat)(a:Int):List (Int×Int):=p.take f++[((p.getD f (0,0)).1,a)]++p.drop (f+1)
noncomputable def hv2(p:List (Int×Int))(f:Nat)(a:Int):List (Int×Int):=p.take f++[(a+1,(p.getD f (0,0)).2)]++p.drop (f+1)
theorem BG{p:List (Int×Int)}{f:Nat}(hf:f < p.length):p=p.take f++p.getD f (0,0)::p.drop (f+1):=by
 conv=>lhs;rw[←Tw f p,Q0 hf]
 rw[j_,h_ hf];rfl
theorem Ow{xs:List Nat}(h:∀x∈xs,x<=m):xs.sum<=xs.length*m:=by
 induction xs with
 | nil=>simp
 | cons x xs ih =>
  have h1:=h x v_;have h2:=ih λx hx=>h x (s_ _ hx)
  rw[List.sum_cons,Rp,Nat.succ_mul];omega
theorem zE{p q:Int×Int}{a b:List (Int×Int)}:covB (p::a) (q::b)=true↔(p.1<=q.1/\q.2<=p.2)/\covB a b=true:=by
 unfold covB;rw[Sy,Sd];simp
theorem Fp:∀a:List (Int×Int),covB a a=true
 | []=>rfl
 | p::a=>zE.mpr ⟨⟨Sk _,Sk _⟩,Fp a⟩
theorem ye:∀{a b:List (Int×Int)}{l:List Int},a.length=b.length->covB a b=true->hasB b l=true->hasB a l=true
 | [],[],l,_,_,h=>by simpa[hasB] using h
 | p::a,q::b,[],_,_,h=>by simp[hasB]
 | p::a,q::b,n::l,e,c,h=>by
  rw[zE] at c;unfold hasB at h ⊢;rw[Sy,Sd,I_] at h ⊢;have h1:=ye (l:=l) (by simpa using e) c.2 (by unfold hasB;exact h.2);unfold hasB at h1;refine⟨?_,h1⟩;have h2:=h.1;simp at h2 ⊢;omega
theorem Os{a b:List (Int×Int)}{l:List Int}(ha:a.length=l.length)(h1:hasB a l=true)(h2:hasB b l=true):okB (mixB a b)=true:=by
 induction a generalizing b l with
 | nil=>rfl
 | cons p a ih =>
  cases b with
  | nil=>rfl
  | cons q b =>
   cases l with
   | nil=>cases ha
   | cons x l =>
    simp only[hasB,Sy,Sd,I_,decide_eq_true_eq] at h1 h2;have:=ih (by simpa using ha) h1.2 h2.2;simp only[okB,mixB,Sy,Q7,Sd,I_,decide_eq_true_eq] at this ⊢;exact⟨by omega,this⟩
theorem Bb:∀{p:List (Int×Int)},okB p=true->hasB p (p.map (·.1))=true
 | [],_=>rfl
 | q::p,h=>by
  simp only[okB,Sd,I_,decide_eq_true_eq] at h;have:=Bb (p:=p) h.2;simp only[hasB,Q7,Sy,Sd,I_,decide_eq_true_eq] at this ⊢;exact⟨⟨Sk _,h.1⟩,this⟩
theorem FI{A B:List (Int×Int)}{x y:Int×Int}(h1:x.1<=y.1)(h2:y.2<=x.2):covB (A++x::B) (A++[y]++B)=true:=by
 induction A with
 | nil=>exact zE.mpr ⟨⟨h1,h2⟩,Fp B⟩
 | cons q A ih=>exact zE.mpr ⟨⟨Sk _,Sk _⟩,ih⟩
theorem Ea{a b:List (Int×Int)}(h:a.length=b.length)(hl:a.length<=1000):cvF xB [wishD a,wishD b]=some (if okB (mixB a b)=true then wishD (mixB a b) else .non):=by
 refine vS rfl λKE k1 _=>?_
 rw[B9];refine uN ?_;rintro K hK -;simp[wishD,Cj,h];refine hK _ ?_;refine uN ?_;rintro K hK -;simp;refine hK _ ?_;refine uN ?_;rintro K hK hR;simp[BP];refine vU (J:=λi Γ=>∃x3 x4 x5 x6,okB ((mixB a b).take i)=true/\Γ=[some (.val (wishD a)),some (.val (wishD b)),some (.own (((mixB a b).take i).map pairD)),x3,x4,x5,x6]) ⟨_,_,_,_,rfl,rfl⟩ ?_ ?_
 ·rintro i d Γ hd ⟨x3,x4,x5,x6,ho,rfl⟩ KL bq - - jp;rw[y_,RF] at hd;obtain⟨q,hq,rfl⟩:=hd;obtain⟨hi,iz⟩:=n_.mp hq;have hm:(mixB a b)[i]?=some (max q.1.1 q.2.1,min q.1.2 q.2.2):=by unfold mixB;rw[y_,hq];rfl
  simp;refine uN ?_;rintro K hK -;simp;refine hK _ ?_;refine uN ?_;rintro K hK -;simp;refine hK _ ?_;refine uN ?_;rintro K hK jq;simp;split
  ·rename_i uG
   have:okB (mixB a b)=false:=by
    rw[←Bool.not_eq_true];intro ir;have:=t_.mp ir _ (Rg hm);simp only[decide_eq_true_eq] at this;omega
   rw[this] at k1;exact jq _ _ (jp _ _ (hR _ _ (k1 _ ⟨_,rfl⟩)))
  ·rename_i uH;refine hK _ ?_;simp[isMut,R.mut];have aR:(mixB a b).length=min a.length b.length:=by simp[mixB]
   have h9:(mixB a b).take (i+1)=(mixB a b).take i++[(max q.1.1 q.2.1,min q.1.2 q.2.2)]:=by rw[Wz,hm];rfl
   refine⟨by omega,bq _ ⟨some (.val (pairD q.1)),some (.val (pairD q.2)),some (.val (.int (max q.1.1 q.2.1))),some (.val (.int (min q.1.2 q.2.2))),?_,?_⟩⟩
   ·rw[h9];unfold okB at ho ⊢;rw[List.all_append,ho];simp only[Sd,List.all_nil,Bool.and_true,Bool.true_and,decide_eq_true_eq];omega
   ·rw[h9,SM];simp[pairD,wishD]
 ·rintro Γ ⟨x3,x4,x5,x6,ho,rfl⟩;refine hK _ ?_;have aR:(mixB a b).length=(a.zip b).length:=by simp[mixB]
  rw[p_,←aR,VL] at ho ⊢;simp;rw[if_pos ho] at k1;exact k1 _ ⟨_,rfl⟩
theorem Dt{p:List (Int×Int)}{f:Nat}{a:Int}(hf:f < p.length)(hl:p.length<=1000):cvF yL [wishD p,.int f,.int a]=some (.tup [wishD (hv1 p f a),wishD (hv2 p f a)]):=by
 obtain⟨pr,hp⟩:∃pr,p[f]?=some pr:=⟨_,h_ hf⟩;have e0:p.getD f (0,0)=pr:=by rw[j_,hp];rfl
 have e1:atI (p.map pairD) (f:Int)=some (pairD pr):=by rw[DL.vX];simp[hp]
 have e2:slF (.tup (p.map pairD)) none (some (f:Int))=some (.tup ((p.map pairD).take f)):=F8 (by simpa using hf);have e3:slF (.tup (p.map pairD)) (some ((f:Int)+1)) none=some (.tup ((p.map pairD).drop (f+1))):=DU (n:=f+1) (by simp;omega) (by omega);refine vS rfl λKE k1 _=>?_
 rw[Cv];refine uN ?_;rintro K hK -;simp[wishD,e2];refine hK _ ?_;refine uN ?_;rintro K hK -;simp[e3];refine hK _ ?_;refine uN ?_;rintro K hK -;simp[e1];refine hK _ ?_;refine uN ?_;rintro K hK -;simp[e1];refine hK _ ?_;simp;refine⟨by omega,by omega,by omega,by omega,?_⟩;have k3:=k1 [some (.val (wishD p)),some (.val (.int f)),some (.val (.int a)),some (.val (.tup (List.take f (map pairD p)))),some (.val (.tup (List.drop (f+1) (map pairD p)))),some (.val (.int pr.1)),some (.val (.int pr.2))] ⟨_,rfl⟩;simpa[wishD,hv1,hv2,e0,pairD,hp,VP,W8] using k3
noncomputable def bdL(g:Nat)(pr wr:Int×Int):List (Int×Int):=(if pr.1 < wr.1 then[((g:Int),wr.1 - 1)] else[])++if wr.2 < pr.2 then[((g:Int),wr.2)] else[]
noncomputable def bdsL(ws:List (List (Int×Int)))(p:List (Int×Int))(g:Nat):List (Int×Int):=ws.flatMap λw=>bdL g (p.getD g (0,0)) (w.getD g (0,0))
noncomputable def bordersL(ws:List (List (Int×Int)))(p:List (Int×Int)):List (Int×Int):=(RR p.length).flatMap (bdsL ws p)
theorem Bq{α Y:Type}{f:α->List Y}{xs:List α}(h:∀x∈xs,(f x).length<=m):(xs.flatMap f).length<=xs.length*m:=by
 induction xs with
 | nil=>simp
 | cons x xs ih =>
  have h1:=h x v_;have h2:=ih λx hx=>h x (s_ _ hx)
  rw[Wx,QZ,Rp,Nat.succ_mul];omega
theorem Hc{g:Nat}{wr:Int×Int}:(bdL g pr wr).length<=2:=by
 unfold bdL;split<;>split<;>simp
theorem Jf:prsD (L.map pairD)=some L:=by
 induction L with
 | nil=>rfl
 | cons x L ih=>simp only[Q7,pairD,prsD] at ih ⊢;rw[ih]
theorem Mi(h:L≠[]):minlF [.lst (L.map pairD)]=some (pairD (minP L)):=by
 cases L with
 | nil=>exact absurd rfl h
 | cons x L=>unfold minlF;simp only;rw[Jf];rfl
theorem F7{w:List (Int×Int)}{g:Nat}(h:g < w.length):atI (w.map pairD) (g:Int)=some (pairD (w.getD g (0,0))):=by
 rw[DL.vX,j_];simp[h]
theorem Ik{p:List (Int×Int)}(hw:∀w∈ws,w.length=p.length)(hp:p.length<=100)(hl:ws.length<=100)(ne:bordersL ws p≠[]):cvF Au [.lst (ws.map wishD),wishD p]=some (pairD (minP (bordersL ws p))):=by
 refine vS rfl λKE k1 _=>?_
 rw[Bx];refine uN ?_;rintro K hK -;simp;refine hK _ ?_;refine uN ?_;rintro K hK -;simp[wishD]
 have fT:∀i,i<=100->((RR i).flatMap (bdsL ws p)).length<=20000:=λi hi=>by
  refine z_ (Bq (m:=200) λg _=>z_ (Bq (m:=2) λw _=>Hc) (by omega)) ?_;simp;omega
 refine vU (J:=λi Γ=>∃x3 x4 x5,Γ=[some (.val (.lst (ws.map wishD))),some (.val (wishD p)),some (.own (((RR i).flatMap (bdsL ws p)).map pairD)),x3,x4,x5]) ⟨_,_,_,rfl⟩ ?_ ?_
 ·rintro i d Γ hd ⟨x3,x4,x5,rfl⟩ KL bq - - -;obtain⟨x,e1,rfl⟩:=yB hd;rw[y_,RF] at e1;obtain⟨pr,e1,rfl⟩:=e1;have hi:i < p.length:=(n_.mp e1).1;have sV:p.getD i (0,0)=pr:=by rw[j_,e1];rfl
  simp;refine vU (J:=λj Γ=>∃x5,Γ=[some (.val (.lst (ws.map wishD))),some (.val (wishD p)),some (.own (((RR i).flatMap (bdsL ws p)++(ws.take j).flatMap λw=>bdL i pr (w.getD i (0,0))).map pairD)),some (.val (.int i)),some (.val (pairD pr)),x5]) ⟨x5,by simp⟩ ?_ ?_
  ·rintro j d Γ hd ⟨x5,rfl⟩ KL bq - - -;rw[y_,RF] at hd;obtain⟨w,pS,rfl⟩:=hd;have kD:=hw w (Rg pS);have h9:ws.take (j+1)=ws.take j++[w]:=by rw[Wz,pS];rfl
   have aw:=F7 (w:=w) (g:=i) (by omega);obtain⟨wr,pU⟩:∃wr,w.getD i (0,0)=wr:=⟨_,rfl⟩;rw[pU] at aw
   have jr:(((RR i).flatMap (bdsL ws p))++(ws.take j).flatMap λw=>bdL i pr (w.getD i (0,0))).length<=30000:=by
    have b1:=fT i (by omega);have b2:((ws.take j).flatMap λw=>bdL i pr (w.getD i (0,0))).length<=200:=z_ (Bq (m:=2) λw _=>Hc) (by simp;omega);rw[QZ];omega
   rw[h9,VY] at bq;simp only[Wx,List.flatMap_nil,Rx,pU] at bq;generalize ((RR i).flatMap (bdsL ws p))=A at bq jr ⊢;generalize ((ws.take j).flatMap λw=>bdL i pr (w.getD i (0,0)))=C at bq jr ⊢;have tW:A.length+C.length<=30000:=by simpa using jr
   simp;refine wt (λΓ=>Γ=[some (.val (.lst (ws.map wishD))),some (.val (wishD p)),some (.own ((A++C++if pr.1 < wr.1 then[((i:Int),wr.1 - 1)] else[]).map pairD)),some (.val (.int i)),some (.val (pairD pr)),some (.val (wishD w))]) ?_ ?_
   ·rintro K hK -;simp[isMut,R.mut,wishD,aw];split
    ·rename_i h;refine⟨by omega,hK _ ?_⟩;simp[wishD,pairD,h]
    ·rename_i h;refine hK _ ?_;rw[if_neg h];simp[wishD]
   ·rintro Γ rfl;simp[isMut,R.mut,wishD,aw];split
    ·rename_i h;refine⟨by split<;>simp<;>omega,bq _ ⟨some (.val (wishD w)),?_⟩⟩;unfold bdL;rw[if_pos h];simp[wishD,pairD]
    ·rename_i h;refine bq _ ⟨some (.val (wishD w)),?_⟩;unfold bdL;rw[if_neg h];simp[wishD]
  ·rintro Γ ⟨x5,rfl⟩;refine bq _ ⟨some (.val (.int i)),some (.val (pairD pr)),x5,?_⟩;rw[p_,VL,List.range_succ,VY];simp[bdsL,sV,e1]
 ·rintro Γ ⟨x3,x4,x5,rfl⟩;refine hK _ ?_
  have hn:∀ds:List D,(numD 0 ds).length=ds.length:=by
   have:∀(ds:List D) m,(numD m ds).length=ds.length:=λds=>by
    induction ds with
    | nil=>intro m;rfl
    | cons d ds ih=>intro m;simp[numD,ih]
   exact λds=>this ds 0
  rw[hn,p_];have:=Mi ne;unfold bordersL at this k1;simp[this];exact k1 _ ⟨_,rfl⟩
theorem z9{g:Nat}{wr x:Int×Int}:x∈bdL g pr wr↔(pr.1 < wr.1/\x=((g:Int),wr.1 - 1))\/(wr.2 < pr.2/\x=((g:Int),wr.2)):=by
 unfold bdL;rw[Q8];constructor
 ·rintro(h | h)
  ·split at h
   ·exact .inl ⟨‹_›,by simpa using h⟩
   ·simp at h
  ·split at h
   ·exact .inr ⟨‹_›,by simpa using h⟩
   ·simp at h
 ·rintro(⟨h,rfl⟩ | ⟨h,rfl⟩)
  ·exact .inl (by rw[if_pos h];simp)
  ·exact .inr (by rw[if_pos h];simp)
theorem G9{p:List (Int×Int)}{x:Int×Int}:x∈bordersL ws p↔∃g,g < p.length/\∃w∈ws,x∈bdL g (p.getD g (0,0)) (w.getD g (0,0)):=by
 unfold bordersL bdsL;simp only[List.mem_flatMap,Su]
theorem B7{p:List (Int×Int)}{g:Nat}(h:g < p.length):p[g]?=some (p.getD g (0,0)):=by
 rw[j_,h_ h];rfl
theorem Kl{w p:List (Int×Int)}(h:w.length=p.length)(ok:okB (mixB w p)=true){g:Nat}(hg:g < p.length):max (w.getD g (0,0)).1 (p.getD g (0,0)).1<=min (w.getD g (0,0)).2 (p.getD g (0,0)).2:=by
 have e:(mixB w p)[g]?=some (max (w.getD g (0,0)).1 (p.getD g (0,0)).1,min (w.getD g (0,0)).2 (p.getD g (0,0)).2):=by
  unfold mixB;rw[y_,SQ (z:=(w.getD g (0,0),p.getD g (0,0))) |>.mpr ⟨B7 (by omega),B7 hg⟩];rfl
 have:=t_.mp ok _ (Rg e);simpa using this
theorem J5{w p:List (Int×Int)}(h:w.length=p.length)(k:∀g,g < p.length->(w.getD g (0,0)).1<=(p.getD g (0,0)).1/\(p.getD g (0,0)).2<=(w.getD g (0,0)).2):covB w p=true:=by
 unfold covB;rw[t_];intro q hq;obtain⟨i,hi,rfl⟩:=Uy hq;rw[WZ] at hi;have:=k i (by omega);rw[List.getElem_zip];rw[j_,j_,h_ (by omega),h_ (by omega)] at this;simpa using this
theorem Nk{p:List (Int×Int)}(len:∀w∈ws,w.length=p.length)(ne:ws≠[])(sW:∀w∈ws,okB (mixB w p)=true)(no:∀w∈ws,covB w p=false):
  bordersL ws p≠[]/\∃(f:Nat) (a:Int),minP (bordersL ws p)=((f:Int),a)/\f < p.length/\(p.getD f (0,0)).1<=a/\a < (p.getD f (0,0)).2:=by
 have one:bordersL ws p≠[]:=by
  obtain⟨w,hw⟩:=UB ws ne;intro sX
  have c:=J5 (len w hw) λg hg=>by
   have h0:=λx hx=>(G9 (ws:=ws) (p:=p) (x:=x)).mpr ⟨g,hg,w,hw,hx⟩
   rw[sX] at h0;refine⟨Int.not_lt.mp λlt=>?_,Int.not_lt.mp λlt=>?_⟩
   ·exact absurd (h0 _ (z9.mpr (.inl ⟨lt,rfl⟩))) S_
   ·exact absurd (h0 _ (z9.mpr (.inr ⟨lt,rfl⟩))) S_
  rw[no w hw] at c;cases c
 refine⟨one,?_⟩
 have m1:minP (bordersL ws p)∈bordersL ws p:=by
  have pos:=Sf.mpr one;have low:=Hj (btP (bordersL ws p)) ((bordersL ws p).length - 1);unfold minP;rw[j_,h_ (by omega)];exact RB _
 generalize minP (bordersL ws p)=m at m1;obtain⟨f,hf,w,hw,hm⟩:=G9.mp m1;have mx:=Kl (len w hw) (sW w hw) hf;refine⟨f,m.2,?_,hf,?_⟩
 ·rcases z9.mp hm with⟨_,rfl⟩ | ⟨_,rfl⟩<;>rfl
 ·rcases z9.mp hm with⟨h,rfl⟩ | ⟨h,rfl⟩<;>(dsimp only;omega)
noncomputable def sizeP(p:List (Int×Int)):Nat:=(p.map λq=>(q.2 - q.1).toNat).sum
theorem Ho{p:List (Int×Int)}{f:Nat}{a:Int}(hf:f < p.length)(h1:(p.getD f (0,0)).1<=a)(h2:a < (p.getD f (0,0)).2):sizeP (hv1 p f a) < sizeP p/\sizeP (hv2 p f a) < sizeP p:=by
 have e:=BG hf;generalize p.getD f (0,0)=pr at *
 have s:sizeP p=sizeP (p.take f)+((pr.2 - pr.1).toNat+sizeP (p.drop (f+1))):=by
  conv=>lhs;rw[e]
  simp[sizeP]
 unfold hv1 hv2;rw[s]
 have e1:p.getD f (0,0)=pr:=by
  conv=>lhs;rw[e]
  rw[j_,RO (by simp;omega)];simp[Nat.min_eq_left (TR hf)]
 rw[e1];simp[sizeP];omega
theorem Wf.cut{p:List (Int×Int)}{f:Nat}{a:Int}(hp:Wf n p)(hf:f < p.length)(h1:(p.getD f (0,0)).1<=a)(h2:a < (p.getD f (0,0)).2):Wf n (hv1 p f a)/\Wf n (hv2 p f a):=by
 have pr:PairOk (p.getD f (0,0)):=hp.all _ (Rg (B7 hf));have:=pr.lo;have:=pr.hi;have:=hp.len;constructor
 ·refine⟨by simp[hv1];omega,λq hq=>?_⟩;unfold hv1 at hq;rw[Q8,Q8,q_] at hq
  rcases hq with(h | rfl) | h
  ·exact hp.all q (R4 h)
  ·exact⟨pr.lo,h1,by dsimp only;omega⟩
  ·exact hp.all q (S1 h)
 ·refine⟨by simp[hv2];omega,λq hq=>?_⟩;unfold hv2 at hq;rw[Q8,Q8,q_] at hq
  rcases hq with(h | rfl) | h
  ·exact hp.all q (R4 h)
  ·exact⟨by dsimp only;omega,by dsimp only;omega,pr.hi⟩
  ·exact hp.all q (S1 h)
theorem Wf.ok{p:List (Int×Int)}(hp:Wf n p):okB p=true:=t_.mpr λq hq=>by simpa using(hp.all q hq).le
noncomputable def wAt(ws:List (List (Int×Int)))(k:Nat):List (Int×Int):=ws.getD k []
theorem BN{k:Nat}(h:k < ws.length):wAt ws k=ws[k]:=by
 unfold wAt;rw[j_,h_ h];rfl
theorem zA{k:Nat}(h:k < ws.length):atI (ws.map wishD) (k:Int)=some (wishD (wAt ws k)):=by
 rw[DL.vX,BN h];simp[h]
theorem BI{k:Nat}(h:k < ws.length):wAt ws k∈ws:=by
 rw[BN h];exact RB _
def RightD(ws:List (List (Int×Int)))(p:List (Int×Int))(d:D):Prop:=(∃l,l.length=p.length/\hasB p l=true/\leftB ws l=true/\d=.tup [.str "out", letD l])\/∃t,d=.tup [.str "in", t]
theorem Gp{n:Nat}{ws:List (List (Int×Int))}(hw:∀w∈ws,Wf n w)(hl:ws.length<=100)(hn:n<=100):∀(m:Nat) (ks:List Nat) (p:List (Int×Int)),Wf n p->sizeP p < m->(∀k∈ks,k < ws.length)->ks.length<=100 →
  (∀k,k < ws.length->k∉ks->∀l,l.length=p.length->hasB p l=true->hasB (wAt ws k) l=false)->∃d,cvF (xn m) [.lst (ws.map wishD),.lst (ks.map λk:Nat=>.int k),wishD p]=some d/\RightD ws p d
 | 0,ks,p,hp,hs,_,_,_=>absurd hs (UI _)
 | m+1,ks,p,hp,hs,hk,hkl,fk=>by
  have ih:=Gp hw hl hn m;have dU:∀k,k < ws.length->(wAt ws k).length=p.length:=λk h=>by rw[(hw _ (BI h)).len,hp.len]
  have pV:p.length<=100:=by rw[hp.len];exact hn
  have bp:wpF (xn (m+1)) [.val (.lst (ws.map wishD)),.val (.lst (ks.map λk:Nat=>.int k)),.val (wishD p)] λr _=>∃d,r=.val d/\RightD ws p d:=by
   rw[xn];refine vG rfl λKE hE _=>?_
   rw[za];refine uN ?_;rintro K hK -;simp;refine vT ks (λk:Nat=>.int k) (λk=>okB (mixB (wAt ws k) p)) (λk:Nat=>.int k) ?_;simp;refine⟨by omega,λk jt=>?_,hK _ ?_⟩
   ·have e1:=zA (hk k jt);have e2:=Ea (dU k (hk k jt)) (by rw[dU k (hk k jt)];omega);simp[e1,e2];split<;>simp[isN,wishD, *]
   ·clear hK;obtain⟨bw,eY⟩:∃bw,bw=ks.filter λk=>okB (mixB (wAt ws k) p):=⟨_,rfl⟩
    rw[←eY];have cJ:∀k,k∈bw↔k∈ks/\okB (mixB (wAt ws k) p)=true:=λk=>by rw[eY,Va]
    have gw:bw.length<=100:=by rw[eY];exact z_ (SC _ _) hkl
    have ju:∀k,k < ws.length->k∉bw->∀l,l.length=p.length->hasB p l=true->hasB (wAt ws k) l=false:=λk h1 h2 l e hl=>by
     by_cases h3:k∈ks
     ·exact UK.mpr λz=>h2 ((cJ k).mpr ⟨h3,Os (by rw[dU k h1,e]) z hl⟩)
     ·exact fk k h1 h3 l e hl
    clear eY;refine uN ?_;rintro K hK hR;simp;split
    ·-- nothing is bw
     rename_i h0;have h0:bw=[]:=by simpa using h0
     simp[wishD];refine vT p pairD (λ_=>true) (λq=>.int q.1) ?_;simp;refine⟨by omega,hR _ _ (hE _ _ ⟨_,rfl,_,rfl,.inl ⟨p.map (·.1),p_ _,Bb hp.ok,?_,?_⟩⟩)⟩
     ·refine t_.mpr λw kD=>?_
      obtain⟨k,h1,rfl⟩:=Uy kD;have:=ju k h1 (by rw[h0];simp) (p.map (·.1)) (p_ _) (Bb hp.ok);rw[BN h1] at this;simpa using this
     ·simp[letD,comp_def]
    ·rename_i h0;refine hK _ ?_;have h0:bw≠[]:=by simpa using h0
     refine uN ?_;rintro K hK hR;simp;refine vU (J:=λi Γ=>∃x4,(∀k∈bw.take i,covB (wAt ws k) p=false)/\Γ=[some (.val (.lst (ws.map wishD))),some (.val (.lst (ks.map λk:Nat=>.int k))),some (.val (wishD p)),some (.val (.lst (bw.map λk:Nat=>.int k))),x4,none,none,none,none]) ⟨none,by simp,rfl⟩ ?_ ?_
     ·rintro i d Γ hd ⟨x4,hc,rfl⟩ KL bq - - jp;rw[y_,RF] at hd;obtain⟨k,pW,rfl⟩:=hd;have sY:=(cJ k).mp (Rg pW);have nq:=hk k sY.1;have e1:=zA nq;have e2:=Al (dU k nq) (by rw[dU k nq];omega);have h9:bw.take (i+1)=bw.take i++[k]:=by rw[Wz,pW];rfl
      simp[e1,e2];split
      ·exact jp _ _ (hR _ _ (hE _ _ ⟨_,rfl,_,rfl,.inr ⟨_,rfl⟩⟩))
      ·rename_i pX;refine bq _ ⟨_,λk' bQ=>?_,rfl⟩;rw[h9] at bQ
       rcases Q8.mp bQ with h | h
       ·exact hc k' h
       ·rw[q_.mp h];simpa using pX
     ·rintro Γ ⟨x4,hc,rfl⟩;refine hK _ ?_;rw[p_,VL] at hc;obtain⟨ic,gL⟩:∃ic,ic=bw.map λk=>wAt ws k:=⟨_,rfl⟩
      have kE:∀w∈ic,∃k,k∈bw/\k < ws.length/\w=wAt ws k:=λw h=>by
       rw[gL,Re] at h;obtain⟨k,h1,rfl⟩:=h;exact⟨k,h1,hk k ((cJ k).mp h1).1,rfl⟩
      obtain⟨bne,f,a,em,hf,h1,h2⟩:=Nk (ws:=ic) (p:=p) (λw h=>by obtain⟨k,_,bQ,rfl⟩:=kE w h;exact dU k bQ) (by rw[gL];simpa using h0)
       (λw h=>by obtain⟨k,bQ,_,rfl⟩:=kE w h;exact((cJ k).mp bQ).2) (λw h=>by obtain⟨k,bQ,_,rfl⟩:=kE w h;exact hc k bQ)
      have bo:=Ik (ws:=ic) (p:=p) (λw h=>by obtain⟨k,_,bQ,rfl⟩:=kE w h;exact dU k bQ) pV (by rw[gL];simpa using gw) bne;rw[em] at bo;have ha:=Dt (p:=p) (a:=a) hf (by omega);obtain⟨w1,w2⟩:=hp.cut hf h1 h2;obtain⟨z1,z2⟩:=Ho hf h1 h2
      have c1:covB p (hv1 p f a)=true:=by
       conv=>lhs;arg 1;rw[BG hf]
       exact FI (Sk _) (Int.le_of_lt h2)
      have c2:covB p (hv2 p f a)=true:=by
       conv=>lhs;arg 1;rw[BG hf]
       exact FI (by dsimp only;omega) (Sk _)
      have s1:p.length=(hv1 p f a).length:=by rw[w1.len,hp.len]
      have s2:p.length=(hv2 p f a).length:=by rw[w2.len,hp.len]
      obtain⟨d1,e1,r1⟩:=ih bw (hv1 p f a) w1 (by omega) (λk h=>hk k ((cJ k).mp h).1) gw λk h1 h2 l e hl=>ju k h1 h2 l (e.trans s1.symm) (ye s1 c1 hl)
      obtain⟨d2,e2,r2⟩:=ih bw (hv2 p f a) w2 (by omega) (λk h=>hk k ((cJ k).mp h).1) gw λk h1 h2 l e hl=>ju k h1 h2 l (e.trans s2.symm) (ye s2 c2 hl)
      refine uN ?_;rintro K hK -;simp;refine vT bw (λk:Nat=>.int k) (λ_=>true) (λk:Nat=>wishD (wAt ws k)) ?_;simp;refine⟨by omega,λk jt=>?_,?_⟩
      ·have e1:=zA (hk k ((cJ k).mp jt).1);simp[e1]
      ·have ew:(bw.map λk=>wishD (wAt ws k))=ic.map wishD:=by rw[gL];simp
       rw[ew];simp[bo];refine hK _ ?_;refine uN ?_;rintro K hK -;simp[ha];refine hK _ ?_;refine uN ?_;rintro K hK -;simp[e1];refine hK _ ?_
       rcases r1 with⟨l1,f1,f2,f3,rfl⟩ | ⟨t1,rfl⟩
       ·refine uN ?_;rintro K hK jq;simp;exact jq _ _ (hE _ _ ⟨_,rfl,_,rfl,.inl ⟨l1,f1.trans s1.symm,ye s1 c1 f2,f3,rfl⟩⟩)
       ·refine uN ?_;rintro K hK -;simp;refine hK _ ?_;refine uN ?_;rintro K hK -;simp[e2];refine hK _ ?_
        rcases r2 with⟨l2,f1,f2,f3,rfl⟩ | ⟨t2,rfl⟩
        ·refine uN ?_;rintro K hK jq;simp;exact jq _ _ (hE _ _ ⟨_,rfl,_,rfl,.inl ⟨l2,f1.trans s2.symm,ye s2 c2 f2,f3,rfl⟩⟩)
        ·refine uN ?_;rintro K hK -;simp;refine hK _ ?_;simp;exact hE _ _ ⟨_,rfl,_,rfl,.inr ⟨_,rfl⟩⟩
  obtain⟨r,aZ,e,d,rfl,hR⟩:=bp;exact⟨d,by unfold cvF;simp only[map];rw[e],hR⟩
theorem A7{p:List (Int×Int)}(hw:∀w∈ws,Wf n w)(hl:ws.length<=100)(hn:n<=3)(hp:Wf n p):∃d,cvF wa [.lst (ws.map wishD),wishD p]=some d/\RightD ws p d:=by
 have sz:sizeP p<=27:=by
  unfold sizeP;refine z_ (Ow (m:=9) λx hx=>?_) ?_
  ·obtain⟨q,hq,rfl⟩:=Re.mp hx;have:=(hp.all q hq).lo;have:=(hp.all q hq).hi;omega
  ·rw[p_,hp.len];omega
 obtain⟨d,e,r⟩:=Gp hw hl (by omega) 40 (RR ws.length) p hp (by omega) (λk h=>Su.mp h) (by simpa using hl) λk h1 h2=>absurd (Su.mpr h1) h2
 refine⟨d,vS rfl λKE k1 _=>?_,r⟩;rw[Bl];refine uN ?_;rintro K hK -
 have kin:cvF vz [.lst (wishD p::ws.map wishD)]=some .non:=yj (n:=n) λd hd=>by
  rcases A_.mp hd with rfl | h
  ·exact⟨p.map pairD,rfl,by simp[hp.len]⟩
  ·obtain⟨w,kD,rfl⟩:=Re.mp h;exact⟨w.map pairD,rfl,by simp[(hw w kD).len]⟩
 simp[kin];refine⟨by omega,hK _ ?_⟩;have er:rngD 0 ws.length=(RR ws.length).map λk:Nat=>D.int k:=by simp[rngD]
 simp[er,e];exact⟨by omega,k1 _ ⟨_,rfl⟩⟩
theorem D':∀(a b:List (Int×Int)),deqA (a.map pairD) (b.map pairD)=decide (a=b)
 | [],[]=>by simp[deqA]
 | [],q::b=>by simp[deqA]
 | p::a,[]=>by simp[deqA]
 | p::a,q::b=>by
  rw[Q7,Q7,deqA,D' a b];simp[pairD,deq,deqA,Prod.ext_iff];by_cases h1:p.1=q.1<;>by_cases h2:p.2=q.2<;>by_cases h3:a=b<;>simp[h1,h2,h3]
theorem Cz(a b:List (Int×Int)):deq (wishD a) (wishD b)=decide (a=b):=by
 unfold wishD;rw[deq];exact D' a b
theorem DX:∀(a b:List (Int×Int)),cmA (a.map pairD) (b.map pairD)=true
 | [],[]=>by simp[cmA]
 | [],q::b=>by simp[cmA]
 | p::a,[]=>by simp[cmA]
 | p::a,q::b=>by
  rw[Q7,Q7,cmA,DX a b];simp[pairD,cmB,cmA]
theorem KN(a b:List (Int×Int)):cmB (wishD a) (wishD b)=true:=by
 unfold wishD;rw[cmB];exact DX a b
theorem Gk(ws:List (List (Int×Int))):cmAll (ws.map wishD)=true:=by
 unfold cmAll;rw[t_];intro a ha;rw[t_];intro b hb;obtain⟨x,_,rfl⟩:=Re.mp ha;obtain⟨y,_,rfl⟩:=Re.mp hb;exact KN x y
theorem E7:∀a:List (Int×Int),kyA (a.map pairD)=true
 | []=>by simp[kyA]
 | p::a=>by
  rw[Q7,kyA,E7 a];simp[pairD,kyB,kyA]
theorem zL{f:D->Bool}(h:∀w∈ws,f (wishD w)=true):(ws.map wishD).all f=true:=by
 rw[t_];intro d hd;obtain⟨w,hw,rfl⟩:=Re.mp hd;exact h w hw
theorem Hh{w:List (Int×Int)}(hw:Wf n w)(h:1<=n):fstT (wishD w)=true:=by
 have:=hw.len;cases w with
 | nil=>simp at this;omega
 | cons p w=>rfl
theorem zI(ws:List (List (Int×Int))):depA (ws.map wishD)<=2:=CN λd hd=>by
 obtain⟨w,_,rfl⟩:=Re.mp hd;exact wV
theorem pull{ws:List (List (Int×Int))}:∀(l:List D),(∀d∈l,∃w∈ws,d=wishD w)->∃us:List (List (Int×Int)),l=us.map wishD/\∀u∈us,u∈ws
 | [],_=>⟨[],rfl,λu hu=>by cases hu⟩
 | d::l,h=>by
  obtain⟨us,e,m⟩:=pull l λd hd=>h d (s_ _ hd)
  obtain⟨w,hw,rfl⟩:=h d v_;refine⟨w::us,by rw[e];rfl,λu hu=>?_⟩
  rcases A_.mp hu with rfl | hu
  ·exact hw
  ·exact m u hu
theorem Oy(aP:∀w∈ws,Wf n w)(h:(dd (ws.map wishD)).length<=18):SetOk (ws.map wishD):=by
 refine⟨Gk ws,zL λw _=>?_,zL λw _=>rfl,z_ (zI ws) (by omega),z_ h (by decide)⟩;unfold wishD;rw[kyB];exact E7 w
theorem Lr(aP:∀w∈ws,Wf n w)(hn:1<=n)(h:(dd (ws.map wishD)).length<=18):setF [.lst (ws.map wishD)]=some (sortD (dd (ws.map wishD))):=
 Pd (Oy aP h) h (.inr (zL λw hw=>Hh (aP w hw) hn))
theorem IK(aP:∀w∈ws,Wf n w)(hn:1<=n)(h:ws.length < 64):sortF [.lst (ws.map wishD)]=some (sortD (ws.map wishD)):=
 IX ⟨by simpa using h,Gk ws,z_ (zI ws) (by omega),.inr (.inr (zL λw hw=>Hh (aP w hw) hn))⟩
noncomputable def undB(us:List (List (Int×Int)))(w:List (Int×Int)):Bool:=us.any λone=>!decide (one=w)&&covB one w
theorem JK{us:List (List (Int×Int))}{w:List (Int×Int)}(gy:∀u∈us,Wf n u)(hw:Wf n w)(hn:n<=3)(hl:us.length<=1000000):cvF zW [.lst (us.map wishD),wishD w]=some (.bl (undB us w)):=by
 refine vS rfl λK k1 _=>?_
 rw[CC];simp;refine vT us wishD (λ_=>true) (λone=>.bl (!decide (one=w)&&covB one w)) ?_;simp[Cz];refine⟨hl,λone ho=>⟨⟨by have:=wV (w:=one);omega,by have:=wV (w:=w);omega⟩,?_⟩,?_⟩
 ·have:=Al (a:=one) (b:=w) (by rw[(gy one ho).len,hw.len]) (by rw[(gy one ho).len];omega);simp[this];split<;>simp_all
 ·rw[Kx];simp;exact k1 _ ⟨_,rfl⟩
theorem roof6(aP:∀u∈ws,Wf n u)(h1:1<=n)(hn:n<=3)(hl:ws.length<=18):∃R:List (List (Int×Int)),coF wP [.lst (ws.map wishD)]=some (R.map wishD)/\(∀w∈R,w∈ws)/\R.length<=ws.length:=by
 have p:=xG (dd (ws.map wishD));have sZ:=Hk (ws.map wishD);rw[p_] at sZ
 obtain⟨us,e,m⟩:=pull (ws:=ws) (sortD (dd (ws.map wishD))) λd hd=>by
  obtain⟨w,hw,rfl⟩:=Re.mp (xq (p.mem_iff.mp hd));exact⟨w,hw,rfl⟩
 have ul:=p.length_eq;rw[e,p_] at ul;refine⟨us.filter λw=>!undB us w,?_,λw hw=>m w (Va.mp hw).1,z_ (SC _ _) (by omega)⟩;refine Kt rfl λKE k1=>?_
 rw[B4];refine uN ?_;rintro K hK -
 have kin:cvF vz [.lst (ws.map wishD)]=some .non:=yj (n:=n) λd hd=>by
  obtain⟨w,hw,rfl⟩:=Re.mp hd;exact⟨w.map pairD,rfl,by rw[p_,(aP w hw).len]⟩
 simp[kin];refine hK _ ?_;refine uN ?_;rintro K hK -;simp[Lr aP h1 (by omega:(dd (ws.map wishD)).length<=18),e];refine hK _ ?_;simp;refine vT us wishD (λw=>!undB us w) wishD ?_;simp;refine⟨by omega,λw hw=>?_,k1 _ ⟨_,rfl⟩⟩;have gy:∀u∈us,Wf n u:=λu hu=>aP u (m u hu)
 simp[JK gy (gy w hw) hn (by omega)]
theorem Io:noLA (ws.map wishD)=true:=by
 have pr:∀w:List (Int×Int),noLA (w.map pairD)=true:=λw=>by
  induction w with
  | nil=>simp[noLA]
  | cons p w ih =>
   rw[Q7,noLA,ih];simp[pairD,noL,noLA]
 induction ws with
 | nil=>simp[noLA]
 | cons w ws ih =>
  rw[Q7,noLA,ih];simp[wishD,noL,pr]
theorem spare6(aP:∀u∈ws,Wf n u)(h1:1<=n)(hn:n<=3)(hl:ws.length<=18):∃d,coF xA [.lst (ws.map wishD)]=some d:=by
 obtain⟨T,e1,sub,lT⟩:=roof6 aP h1 hn hl
 have w:wpF xA ([D.lst (ws.map wishD)].map .val) λr _=>∃S:List (List (Int×Int)),r=.fro (S.map wishD):=by
  refine vG rfl λKE k1 _=>?_
  rw[AA];refine uN ?_;rintro K hK -;simp[e1];refine hK _ ?_;refine uN ?_;rintro K hK -;refine⟨_,_,rfl,hK _ ?_⟩;show wp _ [some (.val (.lst (ws.map wishD))),some (.fro (T.map wishD)),some (.fro (T.map wishD)),none,none] _;refine uN ?_;rintro K hK -;simp;refine vU (J:=λi Γ=>∃(stay:List (List (Int×Int))) (x3 x4:Option R),(∀u∈stay,Wf n u)/\stay.length<=18/\Γ=[some (.val (.lst (ws.map wishD))),some (.fro (T.map wishD)),some (.fro (stay.map wishD)),x3,x4]) ⟨T,_,_,λu hu=>aP u (sub u hu),by omega,rfl⟩ ?_ ?_
  ·rintro i d Γ hd ⟨stay,x3,x4,fF,sl,rfl⟩ KL bq - - -;rw[y_,RF] at hd;obtain⟨w,hw,rfl⟩:=hd;have tm:=aP w (sub w (Rg hw));obtain⟨fR,eb⟩:∃fR,stay.filter (λu=>!decide (u=w))=fR:=⟨_,rfl⟩;have bl:fR.length<=18:=by rw[←eb];exact z_ (SC _ _) sl
   have hb:∀u∈fR,Wf n u:=λu hu=>fF u (by rw[←eb] at hu;exact(Va.mp hu).1)
   obtain⟨x,y,e2⟩:∃x y,cvF wa [.lst (fR.map wishD),wishD w]=some (.tup [.str x,y]):=by
    obtain⟨d,e,⟨l,_,_,_,rfl⟩ | ⟨t,rfl⟩⟩:=A7 hb (by omega) hn tm
    ·exact⟨_,_,e⟩
    ·exact⟨_,_,e⟩
   simp;refine uN ?_;rintro K hK -;simp;refine vT stay wishD (λu=>!decide (u=w)) wishD ?_;simp[Cz];refine⟨by omega,λu hu=>⟨by have:=wV (w:=u);omega,by have:=wV (w:=w);omega⟩,hK _ ?_⟩;rw[eb];simp[e2,dep];split
   ·exact bq _ ⟨fR,_,_,hb,bl,rfl⟩
   ·exact bq _ ⟨stay,_,_,fF,sl,rfl⟩
  ·rintro Γ ⟨stay,x3,x4,fF,sl,rfl⟩;refine hK _ ?_;simp;exact k1 _ _ ⟨_,rfl,stay,rfl⟩
 obtain⟨r,aZ,e,S,rfl⟩:=w;exact⟨_,by unfold coF;rw[e];exact if_pos Io⟩
@[simp ↓] theorem Qc{a:D}{QD:D->Gm->Prop}:wp (lft (inF neg a (.lst ds))) Γ QD↔(dep a<=99/\depA ds<=99)/\QD (.bl (if neg then !ds.any (λd=>deq d a) else ds.any λd=>deq d a)) Γ:=by
 simp only[inF,Hg,wK]
abbrev Wish:=List (Int×Int)
theorem Ao{ws:List Wish}{l:List Int}(aP:∀w∈ws,Wf n w)(hn:n<=3)(hl:l.length=n)(h1:ws.length<=1000):coF vK [.lst (ws.map wishD),letD l]=some ((ws.filter λw=>hasB w l).map wishD):=by
 have:∃d,coF vK [.lst (ws.map wishD),letD l]=some d/\d=(ws.filter λw=>hasB w l).map wishD:=by
  refine Ff ?_;unfold vK;refine Ag rfl ?_;rw[Cm];simp[flR];refine vT ws wishD (λw=>hasB w l) wishD ?_;simp;refine⟨by omega,λw hw=>?_,?_⟩
  ·have:=Fk (w:=w) (l:=l) (by rw[(aP w hw).len,hl]) (by rw[(aP w hw).len];omega);rw[vp this];simp
  ·simp[fin]
 obtain⟨d,e,rfl⟩:=this;exact e
theorem BE{α:Type}:∀(kz:List Int) (xs:List α) (b:α) (m:Int),bestK b m kz xs=b\/bestK b m kz xs∈xs
 | [],xs,b,m=>by unfold bestK;exact .inl rfl
 | k::kz,[],b,m=>by unfold bestK;exact .inl rfl
 | k::kz,x::xs,b,m=>by
  rw[bestK];split
  ·rcases BE kz xs x k with e | e
   ·rw[e];exact .inr v_
   ·exact .inr (s_ _ e)
  ·rcases BE kz xs b m with e | e
   ·exact .inl e
   ·exact .inr (s_ _ e)
theorem NK{α:Type}{d:α}{xs:List α}(h:kz.length=xs.length)(ne:xs≠[]):minL d kz xs∈xs:=by
 cases xs with
 | nil=>exact absurd rfl ne
 | cons x xs =>
  cases kz with
  | nil=>simp at h
  | cons k kz =>
   show bestK x k kz xs∈x::xs
   rcases BE kz xs x k with e | e
   ·rw[e];exact v_
   ·exact s_ _ e
noncomputable def covD(C:List Wish)(w:Wish):D:=(cvF wa [.lst (C.map wishD),wishD w]).getD .non
theorem FX{n:Nat}{ws:List Wish}(aP:∀w∈ws,Wf n w)(hn:n<=3)(h1:ws.length<=1000):∀ls:List (List Int),(∀l∈ls,l.length=n)->keysL (fn1 lenF (consA (frz (fn1 (coF vK) (consA (nm 1) (consA (nm 0) nilA)))) nilA)) (.lst (ws.map wishD)) (ls.map letD)=some (ls.map λl=>((ws.filter λw=>hasB w l).length:Int))
 | [],_=>rfl
 | l::ls,h=>by
  have e:(fn1 lenF (consA (frz (fn1 (coF vK) (consA (nm 1) (consA (nm 0) nilA)))) nilA)) [some (.val (letD l)),some (.val (.lst (ws.map wishD)))]=some (.int ((ws.filter λw=>hasB w l).length:Int),[some (.val (letD l)),some (.val (.lst (ws.map wishD)))]):=by
   have:wp (fn1 lenF (consA (frz (fn1 (coF vK) (consA (nm 1) (consA (nm 0) nilA)))) nilA)) [some (.val (letD l)),some (.val (.lst (ws.map wishD)))] λd Γ=>d=.int ((ws.filter λw=>hasB w l).length:Int)/\Γ=[some (.val (letD l)),some (.val (.lst (ws.map wishD)))]:=by
    simp;rw[vp (Ao aP hn (h l v_) h1)];simp
   obtain⟨d,Γ,e,rfl,rfl⟩:=this;exact e
  rw[Q7,keysL,e];dsimp only;rw[FX aP hn h1 ls λx hx=>h x (s_ _ hx)];rfl
noncomputable def optD:Option (List Int)->D
 | none=>.non
 | some l=>letD l
theorem FS(fo:Wish->Option (List Int)):∀R:List Wish,(R.filter λw=>(fo w).isSome).map (λw=>letD ((fo w).getD []))=(R.filterMap fo).map letD
 | []=>rfl
 | w::R=>by
  have ih:=FS fo R;rw[U_,SH];cases e:fo w with
  | none=>simpa[e] using ih
  | some l=>simpa[e] using ih
theorem Kc(h:keysL el dc ds=some kz):minLF el (.lst ds) dc=some (minL .non kz ds):=by
 unfold minLF;dsimp only;rw[h]
open Classical in
noncomputable def outL(C:List Wish)(w:Wish):Option (List Int):=if h:∃l,l.length=w.length/\hasB w l=true/\leftB C l=true/\covD C w=.tup [.str "out", letD l] then some h.choose else none
theorem FR{R C:List Wish}(hR:∀w∈R,Wf n w)(hC:∀w∈C,Wf n w)(hn:n<=3)(lR:R.length<=100)(lC:C.length<=100):∃o,cvF xT [.lst (R.map wishD),.lst (C.map wishD)]=some (optD o)/\∀l,o=some l->l.length=n/\leftB C l=true/\∃w∈R,hasB w l=true:=by
 have pY:∀w∈R,cvF wa [.lst (C.map wishD),wishD w]=some (covD C w)/\RightD C w (covD C w):=λw hw=>by
  obtain⟨d,e,r⟩:=A7 hC lC hn (hR w hw);have:covD C w=d:=by unfold covD;rw[e];rfl
  rw[this];exact⟨e,r⟩
 have out:∀w∈R,∀l,outL C w=some l->l.length=w.length/\hasB w l=true/\leftB C l=true/\covD C w=.tup [.str "out", letD l]:=λw _ l e=>by
  unfold outL at e;split at e
  ·rename_i h;cases e;exact h.choose_spec
  ·cases e
 have lL:∀w∈R,(∃l,outL C w=some l/\covD C w=.tup [.str "out", letD l])\/(outL C w=none/\∃x,covD C w=.tup [.str "in", x]):=λw hw=>by
  cases e:outL C w with
  | some l=>exact .inl ⟨l,rfl,(out w hw l e).2.2.2⟩
  | none =>
   refine .inr ⟨rfl,?_⟩
   rcases(pY w hw).2 with h | h
   ·rw[outL,dif_pos h] at e;cases e
   ·exact h
 generalize outL C=fo at *
 have pZ:∀l∈R.filterMap fo,l.length=n:=λl hl=>by
  obtain⟨w,hw,e⟩:=SU.mp hl;rw[(out w hw l e).1,(hR w hw).len]
 have qa:=FX hR hn (by omega) _ pZ;generalize hls:R.filterMap fo=ls at *;generalize hkz:(ls.map λl=>((R.filter λw=>hasB w l).length:Int))=kz at *;have kl:kz.length=(ls.map letD).length:=by rw[←hkz];simp
 obtain⟨o,eo,o2⟩:∃o,minL .non kz (ls.map letD)=optD o/\∀l,o=some l->l∈ls:=by
  by_cases ne:ls=[]
  ·subst ne;refine⟨none,?_,λl h=>nomatch h⟩;cases kz<;>rfl
  ·have:=NK (d:=D.non) kl (by simpa using ne);obtain⟨l,hl,e⟩:=Re.mp this;exact⟨some l,e.symm,λl' h=>by cases h;exact hl⟩
 refine⟨o,Gi ?_,λl h=>?_⟩
 ·unfold xT;refine Ag rfl ?_;rw[Cc];refine uN λK hK _=>?_
  simp;refine vT R wishD (λ_=>true) (covD C) ?_;simp;refine⟨by omega,λw hw=>?_,hK _ ?_⟩
  ·rw[vp (pY w hw).1];exact⟨rfl,_,rfl⟩
  refine uN λK hK _=>?_
  simp;refine vT R (covD C) (λw=>(fo w).isSome) (λw=>letD ((fo w).getD [])) ?_;simp;refine⟨by omega,λw hw=>?_,hK _ ?_⟩
  ·rcases lL w hw with⟨l,e1,e2⟩ | ⟨e1,x,e2⟩
   ·rw[e1,e2];simp[dep,deq]
   ·rw[e1,e2];simp[dep,deq];exact⟨by decide,λh=>absurd h (by decide)⟩
  have ef:=FS fo R;rw[hls] at ef;rw[ef];simp[minLam,flR];refine⟨.lst (R.map wishD),_,rfl,?_⟩;dsimp only;rw[vp (Kc qa)];exact⟨⟨_,rfl⟩,eo⟩
 ·have:=o2 l h;rw[←hls] at this;obtain⟨w,hw,e⟩:=SU.mp this;obtain⟨q1,q2,q3,_⟩:=out w hw l e;exact⟨by rw[q1,(hR w hw).len],q3,w,hw,q2⟩
theorem xk{α:Type}{F:List D->Option α}{x:α}{t:M (List D)}(ht:t Γ=some (ds,Γ1))(e:F ds=some x):fn1 F t Γ=some (x,Γ1):=by simp only[fn1,bnd,ht,lft,e]
theorem vn{α Y:Type}{m:M α}{f:α->M Y}{x:α}(h:m Γ=some (x,Γ1)):bnd m f Γ=f x Γ1:=by unfold bnd;rw[h]
theorem NI{g:M Fl}{m:M Nat}{j i:Nat}{Q:Fl->Gm->Prop}(h:m Γ=none)(k:wp g Γ Q):wp (tryE g m j i) Γ Q:=by
 unfold wp tryE;rw[h];exact k
theorem Hx{g:M Fl}{m:M Nat}{j i c:Nat}{Q:Fl->Gm->Prop}(h:m Γ=some (c,Γ1))(e:(bnd (putS j (.val (.exc (xNm c) none))) λ_=>bnd (setV i (nm j)) λ_=>bnd (clr j) λ_=>ret Fl.nx) Γ1=some (Fl.nx,Γ2))(k:Q Fl.nx Γ2):wp (tryE g m j i) Γ Q:=by
 unfold wp tryE;rw[h];exact⟨_,_,e,k⟩
theorem vR{α:Type}{m:M α}{v:α}(h:wp m Γ λx ae=>x=v/\ae=Γ2):m Γ=some (v,Γ2):=by
 obtain⟨_,_,e,rfl,rfl⟩:=h;exact e
theorem wA{gx:List D->Option Nat}{t:M (List D)}(ht:t Γ=some (ds,Γ)):fnX gx t Γ=(gx ds).map λc=>(c,Γ):=by
 unfold fnX bnd;rw[ht];dsimp only;unfold lft;cases gx ds<;>rfl
theorem Ba{m:M Nat}{r:Nat×Gm}(h:m Γ=some r):orX m m' Γ=some r:=by unfold orX;rw[h]
theorem zT{m:M Nat}(h:m Γ=none):orX m m' Γ=m' Γ:=by unfold orX;rw[h]
theorem xW{g:M Fl}{m:M Nat}(h:g Γ=some (Fl.nx,Γ1)):thenX g m Γ=m Γ1:=by unfold thenX bnd;rw[h]
theorem xV{c:M Bool}{m:M Nat}{k:Bool}(h:c Γ=some (k,Γ1)):ifX c m m' Γ=(if k then m else m') Γ1:=by unfold ifX bnd;rw[h]
noncomputable def sameB(ts:List (List D)):Bool:=ts.all λt=>decide (t.length=(ts.headD []).length)
theorem Lu{t t0:List D}(g0:Γ[0]?=some (some (.val (.lst (.tup t0::ds)))))(g1:Γ[1]?=some (some (.val (.tup t)))):tst (op2 (eqF true) (fn1 lenF (consA (nm 1) nilA)) (fn1 lenF (consA (op2 ixF (nm 0) (ret (.int 0))) nilA))) Γ=some (!decide (t.length=t0.length),Γ):=by
 refine vR ?_
 have ix:ixF (.lst (.tup t0::ds)) (.int 0)=some (.tup t0):=by
  show atI _ 0=_;exact Iz
 simp[g0,g1,ix,dep,DA];by_cases h:t.length=t0.length
 ·simp[h]
 ·have:¬(t.length:Int)=t0.length:=by omega
  simp[h,this]
theorem El{t0:List D}{ds:List D}:∀(us:List (List D)) (x:Option R),((forXM (tgN 1) (ifS (tst (op2 (eqF true) (fn1 lenF (consA (nm 1) nilA)) (fn1 lenF (consA (op2 ixF (nm 0) (ret (.int 0))) nilA)))) (λ_=>none) (ret .nx)) (ifX (tst (op2 (eqF true) (fn1 lenF (consA (nm 1) nilA)) (fn1 lenF (consA (op2 ixF (nm 0) (ret (.int 0))) nilA)))) (raX 0 (consA (ret (.str "letters and wishes of unlike many fields")) nilA)) nvX) (us.map D.tup)) [some (.val (.lst (.tup t0::ds))),x]).map (·.1)=if us.all (λt=>decide (t.length=t0.length)) then none else some 0
 | [],x=>rfl
 | u::us,x=>by
  have t:=Lu (Γ:=[some (.val (.lst (.tup t0::ds))),some (.val (.tup u))]) (t:=u) rfl rfl;rw[Q7,forXM,Sd];rw[vn (show tgN 1 (.tup u) [some (.val (.lst (.tup t0::ds))),x]=some ((),[some (.val (.lst (.tup t0::ds))),some (.val (.tup u))]) from rfl)];cases h:decide (u.length=t0.length) with
  | true =>
   rw[h] at t;rw[zT (by rw[xV t];rfl),vn (show(ifS _ _ _) _=some (Fl.nx,[some (.val (.lst (.tup t0::ds))),some (.val (.tup u))]) by unfold ifS;rw[vn t];rfl)];exact El us _
  | false =>
   rw[h] at t;rw[Ba (r:=(0,[some (.val (.lst (.tup t0::ds))),some (.val (.tup u))])) (by rw[xV t];rfl)];rfl
theorem yb:vH [.lst (ts.map D.tup)]=if sameB ts then none else some 0:=by
 show(forX _ _ _ _ [some (.val (.lst (ts.map D.tup))),none]).map _=_;unfold forX;rw[vn (show itS (nm 0) [some (.val (.lst (ts.map D.tup))),none]=some (ts.map D.tup,[some (.val (.lst (ts.map D.tup))),none]) from rfl)];cases ts with
 | nil=>rfl
 | cons t ts =>
  have:=El (t0:=t) (ds:=ts.map D.tup) (t::ts) none;rw[Q7] at this ⊢;exact this
theorem EA(h:sameB ts=true):cvF vz [.lst (ts.map D.tup)]=some .non:=yj (n:=(ts.headD []).length) λd hd=>by
 obtain⟨t,ht,rfl⟩:=Re.mp hd;exact⟨t,rfl,of_decide_eq_true (t_.mp h t ht)⟩
theorem fn1E{F:List D->Option D}{t:M (List D)}(e1:t Γ=some (ds,Γ))(e2:F ds=some d):fn1 F t Γ=some (d,Γ):=by simp only[fn1,bnd,e1,lft,e2]
theorem orE{a b:M Bool}(e1:a Γ=some (false,Γ))(e2:b Γ=some (false,Γ)):orT a b Γ=some (false,Γ):=by simp[orT,bnd,e1,e2]
theorem neE{A C:M D}(e1:A Γ=some (d,Γ))(e2:C Γ=some (d,Γ))(h:dep d<=100):tst (op2 (eqF true) A C) Γ=some (false,Γ):=by
 have e3:eqF true d d=some (.bl false):=by
  unfold eqF;rw[if_pos ⟨h,h⟩,DL.CG];rfl
 simp only[tst,op2,bnd,e1,e2,lft,e3,asB]
theorem Oo:cvF wz [.exc "NoKin" none]=some (.str "kin"):=by kernel_rfl
theorem zH{c:M Bool}{A C:M Fl}{k:Bool}(h:c Γ=some (k,Γ1)):ifS c A C Γ=(if k then A else C) Γ1:=by unfold ifS bnd;rw[h]
theorem Lp{g:M D}(h:g Γ=some (d,Γ)):dropS g Γ=some (Fl.nx,Γ):=by unfold dropS;rw[vn h];rfl
theorem yy{g:M (List D)}(h:g Γ=some (ds,Γ)):frz g Γ=some (.lst ds,Γ):=by unfold frz;rw[vn h];rfl
theorem Hd{i:Nat}{g:M D}{h:M Fl}{QS:Fl->Gm->Prop}(e:g Γ=some (d,Γ))(hi:Nat.blt i Γ.length=true)(hh:wp h (Γ.set i (some (.val d))) QS):wp (seqS (setV i g) h) Γ QS:=
 uN λK hK hR=>⟨.nx,_,by have bC:i < Γ.length:=Nat.le_of_ble_eq_true hi;simp[setV,bnd,e,putS,ret,bC],hK _ hh⟩
theorem Kz{c:M Bool}{h:M Fl}{Q:Fl->Gm->Prop}{k:Bool}(e:c Γ=some (k,Γ))(h1:k=true->Q (.rt (.val d)) Γ)(h2:k=false->wp h Γ Q):wp (seqS (ifS c (retS (ret d)) (ret .nx)) h) Γ Q:=by
 cases k with
 | true=>exact uN λK hK hR=>⟨.rt (.val d),Γ,by rw[zH e];rfl,hR _ _ (h1 rfl)⟩
 | false=>exact uN λK hK hR=>⟨.nx,Γ,by rw[zH e];rfl,hK _ (h2 rfl)⟩
theorem xF{g:M D}{k:Bool}(e:g Γ=some (.bl k,Γ)):tst g Γ=some (k,Γ):=by simp[tst,bnd,e,lft,asB]
theorem wq{α:Type}{F:D->D->Option α}{x y:M D}{c:D}{e:α}(e1:x Γ=some (c,Γ))(e2:y Γ=some (d,Γ))(e3:F c d=some e):op2 F x y Γ=some (e,Γ):=by simp[op2,bnd,e1,e2,lft,e3]
theorem M5{c:M Bool}{x y:M D}{k:Bool}{e:D}(h:c Γ=some (k,Γ))(e1:x Γ=some (d,Γ))(e2:y Γ=some (e,Γ)):ifV c x y Γ=some (if k then d else e,Γ):=by cases k<;>simp[ifV,bnd,h,e1,e2]
theorem Ji(ws:List Wish)(w:Wish):(ws.map wishD).any (λd=>deq d (wishD w))=decide (w∈ws):=by
 induction ws with
 | nil=>rfl
 | cons u ws ih =>
  rw[Q7,Wk,ih,Cz];by_cases e:w=u
  ·simp[e]
  ·have:¬u=w:=λz=>e z.symm
   simp[e,this]
section
variable{ws R sm:List Wish}{l:List Int}{p:Wish}
theorem Gg{C:List Wish}{l:List Int}{w:Wish}(h:leftB C l=true)(hw:hasB w l=true):w∉C:=λz=>by
 have:=t_.mp h w z;rw[hw] at this;cases this
theorem xU{s t:PySem.Str}:deq (.str s) (.str t)=decide (s=t):=by rw[Vr];simp[deq]
theorem lookfor6(hR:∀w∈R,Wf n w)(h1:1<=n)(hn:n<=3)(lR:R.length<=20):∀(f m:Nat) (C:List Wish),m < f->(∀c∈C,c∈R)->C.Nodup->C.length+m<=50 →
  ∃s x xs,cvF (v4 f) [.lst (R.map wishD),.lst (C.map wishD),.int (m:Int)]=some (.tup (.str s::x::xs))/\(R.length<=C.length+m->s = "all")
 | 0,m,C,hm,_,_,_=>absurd hm (UI m)
 | f+1,m,C,hm,hC,nd,lC=>by
  have wC:∀c∈C,Wf n c:=λc hc=>hR c (hC c hc)
  obtain⟨o,eo,o2⟩:=FR hR wC hn (by omega) (by omega)
  have bp:wpF (v4 (f+1)) [.val (.lst (R.map wishD)),.val (.lst (C.map wishD)),.val (.int (m:Int))] λr _=>∃s x xs,r=.val (.tup (.str s::x::xs))/\(R.length<=C.length+m->s = "all"):=by
   rw[v4];refine vG rfl λKE hE _=>?_
   rw[yY];refine uN λK hK _=>?_
   simp;rw[vp eo];refine⟨by simp,hK _ ?_⟩;refine uN λK hK cS=>?_
   cases o with
   | none =>
    have e1:=IK wC h1 (by omega);simp[optD,isN];rw[vp e1];exact cS _ _ (hE _ _ ⟨_,rfl,_,_,_,rfl,λ_=>rfl⟩)
   | some l =>
    obtain⟨l1,l2,w0,l3,l4⟩:=o2 l rfl;have tq:isN (letD l)=false:=rfl;simp[optD,tq];refine hK _ ?_;refine uN λK hK cS=>?_
    cases m with
    | zero =>
     simp[dep];refine cS _ _ (hE _ _ ⟨_,rfl,_,_,_,rfl,λz=>?_⟩);have:=FM (w0::C) R (Tz.mpr ⟨Gg l2 l4,nd⟩) λx hx=>(A_.mp hx).elim (λe=>e▸l3) (hC x)
     simp at this;omega
    | succ m =>
     simp[dep];rw[if_neg (by omega)];refine hK _ ?_;clear hK cS;refine uN λK hK _=>?_
     simp;refine hK _ ?_;have qb:=Ao hR hn l1 (by omega);obtain⟨hv,nr⟩:∃hv,(R.filter λw=>hasB w l)=hv:=⟨_,rfl⟩;rw[nr] at qb;have mem:∀w,w∈hv↔w∈R/\hasB w l=true:=λw=>by rw[←nr];simp
     have uI:hv.length<=20:=by rw[←nr];exact z_ (SC _ _) lR
     have nu:∀w∈hv,∃s x xs,cvF (v4 f) [.lst (R.map wishD),.lst (C.map wishD++[wishD w]),.int (m:Int)]=some (.tup (.str s::x::xs))/\(R.length<=C.length+(m+1)->s = "all"):=λw hw=>by
      obtain⟨w1,w2⟩:=(mem w).mp hw
      have:=lookfor6 hR h1 hn lR f m (C++[w]) (by omega) (λc hc=>by
       rcases Q8.mp hc with z | z
       ·exact hC c z
       ·rw[q_.mp z];exact w1) (Wu.mpr ⟨nd,by simp,λa ha b hb e=>by
        rw[q_.mp hb] at e;subst e
        exact Gg l2 w2 ha⟩) (by simp;omega)
      rw[SM,QZ,Nat.add_assoc,Nat.add_comm [w].length] at this;exact this
     clear eo o2;refine uN λK hK cS=>?_
     simp;rw[vp qb];refine vU (J:=λi Γ=>∃(ts:List D) (x y:Option DL.R),ts.length=i/\(R.length<=C.length+(m+1)->i=0)/\Γ=[some (.val (.lst (R.map wishD))),some (.val (.lst (C.map wishD))),some (.val (.int ((m:Int)+1))),some (.val (letD l)),some (.own ts),x,y]) ⟨[],none,none,rfl,λ_=>rfl,rfl⟩ ?_ ?_
     ·rintro i d Γ hd ⟨ts,x,y,ti,tr,rfl⟩ K bq _ _ tu;rw[y_,RF] at hd;obtain⟨w,e1,rfl⟩:=hd;obtain⟨s,v,vs,ed,al⟩:=nu w (Rg e1);refine⟨(),_,rfl,?_⟩;show wp _ [some (.val (.lst (R.map wishD))),some (.val (.lst (C.map wishD))),some (.val (.int ((m:Int)+1))),some (.val (letD l)),some (.own ts),some (.val (wishD w)),y] _;refine uN λK hK _=>?_
      simp;rw[vp ed];refine⟨by omega,by simp,hK _ ?_⟩;refine uN λK hK jp=>?_
      by_cases es:s = "all"
      ·simp[dep,xU,es];exact jp _ _ (tu _ _ (cS _ _ (hE _ _ ⟨_,rfl,_,_,_,rfl,λ_=>rfl⟩)))
      ·simp[dep,xU,es];refine hK _ ?_
       have tl:ts.length < 1000000:=by
        have:=(n_.mp e1).1;omega
       simp[isMut,DL.R.mut];exact⟨tl,bq _ ⟨_,_,_,by simp[ti],λz=>absurd (al z) es,rfl⟩⟩
     ·rintro Γ ⟨ts,x,y,ti,tr,rfl⟩;refine hK _ ?_;simp;refine hE _ _ ⟨_,rfl,_,_,_,rfl,λz=>?_⟩;have h0:=tr z;rw[p_] at h0;have:=(mem w0).mpr ⟨l3,l4⟩;rw[RG.mp h0] at this;cases this
  obtain⟨r,rs,e,s,x,xs,rfl,h⟩:=bp;exact⟨s,x,xs,by unfold cvF;simp only[map];rw[e],h⟩
theorem fewest6(aP:∀w∈ws,Wf n w)(h1:1<=n)(hn:n<=3)(lw:ws.length<=7):∃d,cvF xK [.lst (ws.map wishD)]=some d:=by
 obtain⟨R,jv,sub,lR⟩:=roof6 aP h1 hn (by omega);have hR:∀w∈R,Wf n w:=λw hw=>aP w (sub w hw)
 have look:∀m:Nat,m<=8->∃s x xs,cvF (v4 10) [.lst (R.map wishD),.lst [],.int (m:Int)]=some (.tup (.str s::x::xs))/\(R.length<=m->s = "all"):=λm hm=>by
  have:=lookfor6 hR h1 hn (by omega) 10 m [] (by omega) (by simp) (by simp) (by simp;omega);simpa using this
 have bp:wpF xK [.val (.lst (ws.map wishD))] λr _=>∃d,r=.val d:=by
  refine vG rfl λKE hE _=>?_
  rw[AZ];refine uN λK hK _=>?_
  simp;rw[vp jv];refine⟨by simp,hK _ ?_⟩;refine uN λK hK _=>⟨_,_,rfl,hK _ ?_⟩
  refine uN λK hK _=>⟨_,_,rfl,hK _ ?_⟩
  obtain⟨s,v,vs,e0,r0⟩:=look 0 (by omega);refine uN λK hK _=>?_
  simp;have e0:cvF (v4 10) [.lst (R.map wishD),.lst [],.int 0]=_:=e0;rw[vp e0];refine⟨by simp,hK _ ?_⟩;refine uN λK hK _=>?_
  refine Ie (J:=λmm Γ=>∃(k:Nat) (x:D) (s:PySem.Str) (v:D) (vs:List D),mm+k=8/\(R.length<=k->s = "all")/\Γ=[some (.val (.lst (ws.map wishD))),some (.val (.lst (R.map wishD))),some (.val (.int (k:Int))),some (.val x),some (.val (.tup (.str s::v::vs)))]) ?_ 100 8 _ (by omega) ⟨0,.non,s,v,vs,rfl,r0,rfl⟩;clear e0 r0;rintro mm Γ ⟨k,x,s,v,vs,hk,al,rfl⟩;by_cases es:s = "all"
  ·simp[dep,xU,es];refine hK _ ?_;simp;exact hE _ _ ⟨_,rfl,_,rfl⟩
  ·obtain⟨s',v',fq,e',r'⟩:=look (k+1) (by have:¬R.length<=k:=λz=>es (al z);omega);have cond:wp (tst (op2 (eqF true) (op2 ixF (nm 4) (ret (.int 0))) (ret (.str "all")))) [some (.val (.lst (ws.map wishD))),some (.val (.lst (R.map wishD))),some (.val (.int (k:Int))),some (.val x),some (.val (.tup (.str s::v::vs)))] λb Γ1=>b=true/\Γ1=[some (.val (.lst (ws.map wishD))),some (.val (.lst (R.map wishD))),some (.val (.int (k:Int))),some (.val x),some (.val (.tup (.str s::v::vs)))]:=by simp[dep,xU,es]
   refine cond.mono ?_;rintro b Γ1 ⟨rfl,rfl⟩;rw[if_pos rfl];refine⟨mm - 1,by have:¬R.length<=k:=λz=>es (al z);omega,λK bq _ _ _=>?_⟩;refine uN λK hK _=>⟨_,_,rfl,hK _ ?_⟩
   refine uN λK hK _=>⟨_,_,rfl,hK _ ?_⟩
   simp;have ec:((k+1:Nat):Int)=(k:Int)+1:=by omega
   rw[ec] at e';rw[vp e'];exact⟨by simp,bq _ ⟨k+1,_,_,_,_,by have:¬R.length<=k:=λz=>es (al z);omega,r',by rw[ec];rfl⟩⟩
 obtain⟨r,rs,e,d,rfl⟩:=bp;exact⟨d,by unfold cvF;simp only[map];rw[e]⟩
end
@[simp] theorem QC{α:Type}{a b c d:α}{ds:List α}:atI (a::b::c::d::ds) 3=some d:=by
 rw[show(3:Int)=((3:Nat):Int) from rfl,DL.vX];rfl
@[simp] theorem Pg{α:Type}{a b c d e:α}{ds:List α}:atI (a::b::c::d::e::ds) 4=some e:=by
 rw[show(4:Int)=((4:Nat):Int) from rfl,DL.vX];rfl
section
variable{ws R sm:List Wish}{l:List Int}{p:Wish}
theorem cvB{g:List DL.R->Option (DL.R×List DL.R)}(h:wpF g (ds.map .val) λr _=>∃b,r=.val (.bl b)):∃b,cvF g ds=some (.bl b):=by
 obtain⟨r,rs,e,d,rfl⟩:=h;exact⟨d,by unfold cvF;rw[e]⟩
theorem leaf6(hR:∀w∈R,Wf n w)(hn:n<=3)(ll:l.length=n)(lR:R.length<=100)(m:Int):∃b,cvF (xI 10) [.lst (R.map wishD),.lst [],.int m,.tup [.str "left", letD l]]=some (.bl b):=by
 have h1:=Ao hR hn ll (by omega);have h2:coF vK [.lst [],letD l]=some []:=Ao (ws:=[]) (n:=n) (by simp) hn ll (by simp);generalize R.filter (λw=>hasB w l)=hv at h1;rw[xI];refine cvB (vG rfl λKE hE _=>?_);rw[Ah];refine uN λK hK _=>⟨_,_,rfl,hK _ ?_⟩
 refine uN λK hK _=>?_
 simp;rw[vp h1];refine⟨by simp,hK _ ?_⟩;refine uN λK hK cS=>?_
 simp[dep];rw[vp h2];cases hv with
 | nil =>
  simp;exact cS _ _ (hE _ _ ⟨_,rfl,_,rfl⟩)
 | cons w hv =>
  simp;refine hK _ ?_;refine uN λK hK cS=>?_
  simp[dep,deq];exact cS _ _ (hE _ _ ⟨_,rfl,_,rfl⟩)
theorem isfew6{m:Int}(aP:∀w∈ws,Wf n w)(h1:1<=n)(hn:n<=3)(lw:ws.length<=7)(hs:∀w∈sm,Wf n w)(ls:sm.length<=12)(ll:l.length=n):∃b,cvF Ab [.lst (ws.map wishD),.tup [.int m,.lst (sm.map wishD),.tup [.str "left", letD l]]]=some (.bl b):=by
 obtain⟨R,jv,sub,lR⟩:=roof6 aP h1 hn (by omega);have hR:∀w∈R,Wf n w:=λw hw=>aP w (sub w hw)
 obtain⟨o,eo,_⟩:=FR hR hs hn (by omega) (by omega);obtain⟨bt,et⟩:=leaf6 (l:=l) hR hn ll (by omega) (m - 1);have nv:cvF (wy 10) [.tup [.str "left", letD l]]=some (.lst [letD l]):=rfl
 have kin:=yj (n:=n) (ds:=ws.map wishD++(sm.map wishD++[letD l])) λd hd=>by
  rcases Q8.mp hd with z | z
  ·obtain⟨w,hw,rfl⟩:=Re.mp z;exact⟨_,rfl,by rw[p_];exact(aP w hw).len⟩
  ·rcases Q8.mp z with z | z
   ·obtain⟨w,hw,rfl⟩:=Re.mp z;exact⟨_,rfl,by rw[p_];exact(hs w hw).len⟩
   ·rw[q_.mp z];exact⟨_,rfl,by rw[p_];exact ll⟩
 refine cvB (vG rfl λKE hE _=>?_);rw[Bw];refine uN λK hK _=>⟨_,_,rfl,hK _ ?_⟩
 refine uN λK hK _=>⟨_,_,rfl,hK _ ?_⟩
 refine uN λK hK _=>?_
 simp;rw[vp nv];simp;rw[vp kin];refine⟨by omega,by omega,hK _ ?_⟩;refine uN λK hK _=>?_
 simp;rw[vp jv];refine⟨by simp,hK _ ?_⟩;refine uN λK hK cS=>?_
 by_cases c1:(sm.length:Int)=m
 ·subst c1;simp[dep];refine vT R wishD (λw=>decide (w∈sm)) wishD ?_;have dw:∀w:Wish,dep (wishD w)<=99:=λw=>z_ wV (by decide)
  have ds:=zI sm;simp only[Kj,L0,RP,List.getElem?_cons_zero,Hg,Gh];refine⟨trivial,by omega,λw hw b=>?_,?_⟩
  ·have:=Ji sm w;rw[List.any_map] at this;simp[dw,this];omega
  ·have dr:=zI (R.filter λw=>decide (w∈sm));refine⟨⟨by omega,by omega⟩,?_⟩;split
   ·refine hK _ ?_;clear hK cS;simp;rw[vp eo];simp;split
    ·rw[vp et];exact hE _ _ ⟨_,rfl,_,rfl⟩
    ·exact hE _ _ ⟨_,rfl,_,rfl⟩
   ·exact cS _ _ (hE _ _ ⟨_,rfl,_,rfl⟩)
 ·simp[dep,c1];exact cS _ _ (hE _ _ ⟨_,rfl,_,rfl⟩)
theorem by6(aP:∀w∈ws,Wf n w)(hp:Wf n p)(hn:n<=3)(lw:ws.length<=100)(f:Nat)(i:Int):∃b,cvF (vE (f+1)) [.lst (ws.map wishD),wishD p,.tup [.str "by", .int i]]=some (.bl b):=by
 rw[vE];refine cvB (vG rfl λKE hE _=>?_);rw[xZ];refine uN ?_;rintro K hK hR;by_cases h0:0<=i
 ·obtain⟨k,rfl⟩:∃k:Nat,i=k:=⟨i.toNat,by omega⟩;by_cases h2:k < ws.length
  ·have c:=Al (a:=wAt ws k) (b:=p) (by rw[(aP _ (BI h2)).len,hp.len]) (by rw[(aP _ (BI h2)).len];omega);have ix:=zA h2;simp[ix,c,h2,deq,dep];exact hR _ _ (hE _ _ ⟨_,rfl,_,rfl⟩)
  ·simp[h2,deq,dep];exact hR _ _ (hE _ _ ⟨_,rfl,_,rfl⟩)
 ·simp[h0,deq,dep];exact hR _ _ (hE _ _ ⟨_,rfl,_,rfl⟩)
theorem cut6{t u:D}{f:Nat}{a:Int}(hp:Wf n p)(hn:n<=3)(h1:∀q,Wf n q->∃b,cvF (vE m) [.lst (ws.map wishD),wishD q,t]=some (.bl b))(h2:∀q,Wf n q->∃b,cvF (vE m) [.lst (ws.map wishD),wishD q,u]=some (.bl b)):∃b,cvF (vE (m+1)) [.lst (ws.map wishD),wishD p,.tup [.str "cut", .int f,.int a,t,u]]=some (.bl b):=by
 rw[vE];refine cvB (vG rfl λKE hE _=>?_);rw[xZ];refine uN ?_;rintro K hK -;refine⟨_,_,rfl,hK _ ?_⟩;refine uN ?_;rintro K hK -;refine⟨_,_,rfl,hK _ ?_⟩;refine uN ?_;rintro K hK -;refine⟨_,_,rfl,hK _ ?_⟩;show wp _ [some (.val (.lst (ws.map wishD))),some (.val (wishD p)),some (.val (.tup [.str "cut", .int f,.int a,t,u])),some (.val (.int f)),some (.val (.int a)),none] _;refine uN ?_;rintro K hK hR;by_cases g1:f < p.length
 ·have ix:=F7 g1;obtain⟨pr,nw⟩:∃pr,pr=p.getD f (0,0):=⟨_,rfl⟩;rw[←nw] at ix;by_cases g2:pr.1<=a/\a < pr.2
  ·have hv:=Dt (p:=p) (f:=f) (a:=a) g1 (by rw[hp.len];omega);obtain⟨w1,w2⟩:=hp.cut g1 (by rw[←nw];exact g2.1) (by rw[←nw];exact g2.2);obtain⟨b1,e1⟩:=h1 _ w1;obtain⟨b2,e2⟩:=h2 _ w2;simp[wishD,ix,g1,g2.1,g2.2];refine hK _ ?_;refine uN ?_;rintro K hK -;simp[wishD] at hv;simp[hv];refine hK _ ?_
   change cvF (vE m) [.lst (ws.map wishD),.tup ((hv1 p f a).map pairD),t]=some (.bl b1) at e1
   change cvF (vE m) [.lst (ws.map wishD),.tup ((hv2 p f a).map pairD),u]=some (.bl b2) at e2
   simp[e1];cases b1 with
   | true =>
    simp[e2];exact hE _ _ ⟨_,rfl,_,rfl⟩
   | false =>
    simp;exact hE _ _ ⟨_,rfl,_,rfl⟩
  ·by_cases g3:pr.1<=a
   ·have g4:¬a < pr.2:=λz=>g2 ⟨g3,z⟩
    simp[wishD,ix,g1,g3,g4];exact hR _ _ (hE _ _ ⟨_,rfl,_,rfl⟩)
   ·simp[wishD,ix,g1,g3];exact hR _ _ (hE _ _ ⟨_,rfl,_,rfl⟩)
 ·simp[wishD,g1];exact hR _ _ (hE _ _ ⟨_,rfl,_,rfl⟩)
end
theorem MR{ts:M Bool}{QL:List D->Gm->Prop}(J:Nat->List D->Gm->Prop)(h:wp it Γ λds Γ1=>ds.length<=lim/\J 0 [] Γ1/\(∀(i:Nat) d af a Γ2,ds[i]?=some d->J i af Γ2->wp (az d) (a::Γ2) λ_ aI=>wp ts aI λb aJ=>b=true/\wp el aJ λx fj=>∃a' iG,fj=a'::iG/\J (i+1) (af++[x]) iG)/\∀af Γ2,J ds.length af Γ2->QL af Γ2):wp (compO 1 it az ts el) Γ QL:=by
 unfold compO;rw[vh];refine h.mono λds Γ1 ⟨hl,h0,hs,hq⟩=>?_
 rw[if_pos hl]
 have bp:∀(es:List D) (i:Nat) (af:List D) (a:Option R) (Γ2:Gm),ds.drop i=es->i<=ds.length->J i af Γ2->∃r a' dk,compM az ts el es (a::Γ2)=some (r,a'::dk)/\J ds.length (af++r) dk:=by
  intro es
  induction es with
  | nil =>
   intro i af a Γ2 hd hi hj
   have:i=ds.length:=by
    have:=VG.mp hd;omega
   subst this;exact⟨[],a,Γ2,rfl,by simpa using hj⟩
  | cons d es ih =>
   intro i af a Γ2 hd hi hj
   have bz:i < ds.length:=by
    rcases Ux i ds.length with z | z
    ·exact z
    ·rw[Tj z] at hd;cases hd
   have e1:ds[i]?=some d:=by
    have:=Q0 bz;rw[hd] at this;cases this;exact h_ bz
   have e2:ds.drop (i+1)=es:=by
    have:=Q0 bz;rw[hd] at this;injection this with _ q
    exact q.symm
   obtain⟨_,aI,g1,b,aJ,g2,rfl,x,fj,g3,a',iG,rfl,bE⟩:=hs i d af a Γ2 e1 hj;obtain⟨r,tz,dk,g4,qc⟩:=ih (i+1) (af++[x]) a' iG e2 bz bE;refine⟨x::r,tz,dk,?_,by simpa using qc⟩;rw[compM];unfold bnd;rw[g1];dsimp only;rw[g2];dsimp only;rw[if_pos rfl];rw[g3];dsimp only;rw[g4];rfl
 obtain⟨r,a',dk,e,hj⟩:=bp ds 0 [] none Γ1 rfl (Rw _) h0;refine⟨r,dk,?_,hq r dk (by simpa using hj)⟩;have e':compM az ts el ds (QY 1 none++Γ1)=some (r,a'::dk):=e;unfold inC;rw[e'];rfl
theorem Hr{g:M Fl}{m:M Nat}{r:R}(h:g Γ=some (Fl.rt r,Γ1)):thenX g m Γ=none:=by unfold thenX bnd;rw[h]
def TA(x:Option (Nat×Gm))(g:Option (Fl×Gm))(Γ:Gm)(b:Bool):Prop:=if b then x=none/\∃d,g=some (.rt (.val d),Γ) else x=some (0,Γ)
theorem G1{gx:List D->Option Nat}{t:M (List D)}{v:M D}{b:Bool}(e:t Γ=some (ds,Γ))(hx:gx ds=if b then none else some 0)(hg:b=true->∃d,v Γ=some (d,Γ)):TA (fnX gx t Γ) (retS v Γ) Γ b:=by
 unfold TA;rw[wA e,hx];cases b with
 | true =>
  obtain⟨d,h⟩:=hg rfl;exact⟨rfl,d,by unfold retS;rw[vn h];rfl⟩
 | false=>rfl
theorem DV{a c:M Fl}(h:a Γ=some (.nx,Γ1)):seqS a c Γ=c Γ1:=by unfold seqS;rw[vn h]
theorem EV{x:M Nat}{v:M Fl}{c:M Bool}{b:Bool}{r:M Nat}{r':M Fl}(h:c Γ=some (false,Γ))(n:TA (r Γ) (r' Γ) Γ b):TA (orX (ifX c x nvX) (thenX (ifS c v (ret .nx)) r) Γ) (seqS (ifS c v (ret .nx)) r' Γ) Γ b:=by
 have e2:ifS c v (ret .nx) Γ=some (.nx,Γ):=by rw[zH h];rfl
 rw[zT (by rw[xV h];rfl),xW e2,DV e2];exact n
theorem wL{gx:List D->Option Nat}{t:M (List D)}{v:M D}{c:M Bool}{b k:Bool}{r:M Nat}{r':M Fl}(h:c Γ=some (k,Γ))(e:t Γ=some (ds,Γ))(y:k=true->(gx ds=if b then none else some 0)/\(b=true->∃d,v Γ=some (d,Γ)))(n:k=false->TA (r Γ) (r' Γ) Γ b):TA (orX (ifX c (fnX gx t) nvX) (thenX (ifS c (retS v) (ret .nx)) r) Γ) (seqS (ifS c (retS v) (ret .nx)) r' Γ) Γ b:=by
 cases k with
 | false=>exact EV h (n rfl)
 | true =>
  obtain⟨y1,y2⟩:=y rfl;have:=G1 e y1 y2;unfold TA at *;cases b with
  | true =>
   obtain⟨a1,d,a2⟩:=this;have e2:ifS c (retS v) (ret .nx) Γ=some (.rt (.val d),Γ):=by rw[zH h];exact a2
   refine⟨?_,d,by unfold seqS;rw[vn e2];rfl⟩;rw[zT (by rw[xV h];exact a1),Hr e2]
  | false=>exact Ba (by rw[xV h];exact this)
theorem v7:sameB ts=true↔∀t∈ts,∀u∈ts,t.length=u.length:=by
 unfold sameB;rw[t_];constructor
 ·intro h t ht u hu;rw[of_decide_eq_true (h t ht),of_decide_eq_true (h u hu)]
 ·intro h t ht;cases ts with
  | nil=>cases ht
  | cons t0 ts=>exact decide_eq_true (h t ht t0 v_)
theorem GB{us:List (List D)}(h:∀t∈ts,∃u∈us,t.length=u.length)(k:∀t∈us,∃u∈ts,t.length=u.length):sameB ts=sameB us:=by
 have:∀{as bs:List (List D)},(∀t∈bs,∃u∈as,t.length=u.length)->sameB as=true->sameB bs=true:=λh s=>v7.mpr λt ht u hu=>by
  obtain⟨t',a1,a2⟩:=h t ht;obtain⟨u',b1,b2⟩:=h u hu;rw[a2,b2];exact v7.mp s _ a1 _ b1
 exact Vr.mpr ⟨this k,this h⟩
noncomputable def wT(w:Wish):List D:=w.map pairD
theorem wT_D{ws:List Wish}:ws.map wishD=(ws.map wT).map D.tup:=by rw[map_map];rfl
theorem v9{w:Wish}:(wT w).length=w.length:=p_ _
section
variable{ws cs:List Wish}{w0 p':Wish}{l:List Int}{q:Int×Int}{at_ k:Int}
def Wa(w:Wish):Prop:=∃f,1<=f/\f<=3/\Wf f w
theorem xX(ne:ws≠[])(h:∀w∈ws,Wa w)(s:sameB (ws.map wT)=true):∃n,1<=n/\n<=3/\∀w∈ws,Wf n w:=by
 obtain⟨p,hp⟩:=UB ws ne;obtain⟨f,f1,f3,hf⟩:=h p hp;refine⟨f,f1,f3,λu hu=>?_⟩;obtain⟨g,_,_,hg⟩:=h u hu;have:=v7.mp s (wT u) (Re.mpr ⟨u,hu,rfl⟩) (wT p) (Re.mpr ⟨p,hp,rfl⟩);rw[v9,v9,hg.len,hf.len] at this;rw[←this];exact hg
structure Good(ws:List Wish)(p:Wish)(l:List Int)(cs:List Wish):Prop where
 lw:1<=ws.length/\ws.length<=6
 hw:∀w∈ws,Wa w
 hp:Wa p
 l3:l.length<=3
 hc:∀w∈cs,Wa w
 lc:cs.length<=5
noncomputable abbrev trees(v:Int):List D:=[.tup [.str "by", .int 0],.tup [.str "by", .int 9],.tup [.str "cut", .int 0,.int v,.tup [.str "by", .int 0],.tup [.str "by", .int 0]],.tup [.str "cut", .int 7,.int 0,.tup [.str "by", .int (-1)],.tup [.str "by", .int 0]]]
noncomputable def thr(at_:Int)(ws:List Wish)(p:Wish)(l:List Int)(cs:List Wish):List (List D):=if at_=0 then[wT p,l.map D.int] else if at_=1 then[wT (ws.headD []),wT p] else if at_=2 then[wT p,wT (ws.getLast?.getD [])] else if at_ < 8 then(ws++[p]).map wT else if at_=11 then(ws++cs).map wT else ws.map wT
theorem z7{x k:Int}:eqF false (.int x) (.int k)=some (.bl (decide (x=k))):=by
 unfold eqF;rw[if_pos ⟨by simp[dep],by simp[dep]⟩,DA];rfl
theorem Bm{a b:List D}{r:Gm}:(fnX vH (consA (frz (lstA (consA (nm 0) (consA (nm 1) nilA)))) nilA) (some (.val (.tup a))::some (.val (.tup b))::r)).map (·.1)=if sameB [a,b] then none else some 0:=by
 rw[wA rfl,show vH [.lst [.tup a,.tup b]]=_ from yb (ts:=[a,b])];cases sameB [a,b]<;>rfl
theorem EW{p:Wish}(lw:ws.length<=100)(g0:Γ[0]?=some (some (.val (.lst (ws.map wishD)))))(g1:Γ[1]?=some (some (.val (wishD p)))):consA (frz (op2 catF (frz (lstA (consA (nm 1) nilA))) (nm 0))) nilA Γ=some ([.lst (((p::ws).map wT).map D.tup)],Γ):=by
 have c:catF (.lst [wishD p]) (.lst (ws.map wishD))=some (wishD p::ws.map wishD):=if_pos (by rw[p_];unfold lim;simp;omega);rw[←wT_D];simp[consA,frz,bnd,nm,g0,g1,nilA,ret,lft,op2,lstA,c,lim]
theorem EJ{p:Wish}{r:Gm}(lw:ws.length<=100):(fnX vH (consA (frz (op2 catF (frz (lstA (consA (nm 1) nilA))) (nm 0))) nilA) (some (.val (.lst (ws.map wishD)))::some (.val (wishD p))::r)).map (·.1)=if sameB ((p::ws).map wT) then none else some 0:=by
 rw[wA (EW lw rfl rfl),yb];cases sameB ((p::ws).map wT)<;>rfl
theorem Eo:wN [.lst (ws.map wishD)]=if sameB (ws.map wT) then none else some 0:=by
 rw[wT_D];show(fnX _ _ [some (.val (.lst ((ws.map wT).map D.tup))),none]).map _=_;rw[wA rfl,yb];cases sameB (ws.map wT)<;>rfl
theorem BM{r:Gm}:(fnX wN (consA (nm 0) nilA) (some (.val (.lst (ws.map wishD)))::r)).map (·.1)=if sameB (ws.map wT) then none else some 0:=by
 rw[wA rfl,Eo];cases sameB (ws.map wT)<;>rfl
theorem LV(lw:ws.length<=100)(lc:cs.length<=100):ze [.lst (ws.map wishD),.tup [.int k,.lst (cs.map wishD),.tup [.str "left", letD l]]]=if sameB ((ws++cs).map wT++[l.map D.int]) then none else some 0:=by
 show(thenX _ (thenX _ (orX _ (thenX _ _))) [some (.val (.lst (ws.map wishD))),some (.val (.tup [.int k,.lst (cs.map wishD),.tup [.str "left", letD l]])),none,none,none]).map _=_
 have c1:catF (.lst (ws.map wishD)) (.lst (cs.map wishD))=some ((ws++cs).map wishD):=by
  rw[SM];exact if_pos (by rw[p_,p_];unfold lim;omega)
 have c2:catF (.lst ((ws++cs).map wishD)) (.lst [letD l])=some ((ws++cs).map wishD++[letD l]):=if_pos (by rw[p_,QZ];unfold lim;simp;omega);have nv:cvF (wy 10) [.tup [.str "left", letD l]]=some (.lst [letD l]):=rfl;rw[xW (Γ1:=[some (.val (.lst (ws.map wishD))),some (.val (.tup [.int k,.lst (cs.map wishD),.tup [.str "left", letD l]])),some (.val (.int k)),none,none]) rfl,xW (Γ1:=[some (.val (.lst (ws.map wishD))),some (.val (.tup [.int k,.lst (cs.map wishD),.tup [.str "left", letD l]])),some (.val (.int k)),some (.val (.lst (cs.map wishD))),none]) rfl]
 have ea:consA (frz (op2 catF (frz (op2 catF (nm 0) (nm 3))) (fn1 (cvF (wy 10)) (consA (op2 ixF (nm 1) (ret (.int 2))) nilA)))) nilA [some (.val (.lst (ws.map wishD))),some (.val (.tup [.int k,.lst (cs.map wishD),.tup [.str "left", letD l]])),some (.val (.int k)),some (.val (.lst (cs.map wishD))),none]=some ([.lst (((ws++cs).map wT++[l.map D.int]).map D.tup)],[some (.val (.lst (ws.map wishD))),some (.val (.tup [.int k,.lst (cs.map wishD),.tup [.str "left", letD l]])),some (.val (.int k)),some (.val (.lst (cs.map wishD))),none]):=by
  refine vR ?_;rw[SM,←wT_D];simp only[vJ,wI,xl];refine⟨_,_,rfl,_,_,rfl,_,_,by rw[c1];rfl,_,_,fn1E rfl nv,_,_,by rw[c2];rfl,_,_,rfl,rfl,rfl⟩
 cases h:sameB ((ws++cs).map wT++[l.map D.int]) with
 | false=>rw[Ba (by rw[wA ea,yb,h];rfl)];rfl
 | true =>
  have sub:∀t∈ws.map wT,t∈(ws++cs).map wT++[l.map D.int]:=λt ht=>Rl _ (by rw[SM];exact Rl _ ht)
  have hs:sameB (ws.map wT)=true:=v7.mpr λt ht u hu=>v7.mp h t (sub t ht) u (sub u hu)
  rw[zT (by rw[wA ea,yb,h];rfl),xW (by unfold dropS;rw[vn (xk ea (EA h))];rfl),BM,hs]
end
theorem Ds{ws:List Wish}(ne:ws≠[]):atI (ws.map wishD) (-1)=some (wishD (ws.getLast ne)):=by
 have:ws.map wishD=ws.dropLast.map wishD++[wishD (ws.getLast ne)]:=by
  rw[←List.map_singleton (f:=wishD),←SM,List.dropLast_concat_getLast ne]
 rw[this];exact L2.ML _ _
section
variable{ws cs:List Wish}{w0 p':Wish}{l:List Int}{q:Int×Int}{at_ k:Int}
theorem fnE1{F:List D->Option D}{t:M (List D)}(e:t Γ=some (ds,Γ))(h:∃d,F ds=some d):∃d,fn1 F t Γ=some (d,Γ):=by
 obtain⟨d,h⟩:=h;exact⟨d,fn1E e h⟩
theorem fnO1{t:M (List D)}{d:List D}(e:t Γ=some (ds,Γ))(h:F ds=some d):∃d,frz (fn1 F t) Γ=some (d,Γ):=⟨.lst d,yy (xk e h)⟩
theorem cuts6{p:Wish}{t:D}(hp:Wf n p)(aP:∀w∈ws,Wf n w)(lw:ws.length<=100)(h:∃b,cvF (vE 10) [.lst (ws.map wishD),wishD p,t]=some (.bl b)):∃d,cvF yw [.lst (ws.map wishD),wishD p,t]=some d:=by
 obtain⟨b,h⟩:=h;refine⟨.bl b,vS rfl λKE k1 _=>?_⟩;rw[Cf];refine uN λK hK _=>?_
 have kin:cvF vz [.lst (((p::ws).map wT).map D.tup)]=some .non:=EA (v7.mpr λt ht u hu=>by
  have:∀t∈(p::ws).map wT,t.length=n:=λt ht=>by
   obtain⟨w,hw,rfl⟩:=Re.mp ht;rw[v9]
   rcases A_.mp hw with rfl | hw
   ·exact hp.len
   ·exact(aP w hw).len
  rw[this t ht,this u hu])
 refine⟨_,_,by unfold dropS;rw[vn (xk (EW lw rfl rfl) kin)];rfl,hK _ ⟨_,_,by unfold retS;rw[vn (xk rfl h)];rfl,k1 _ ⟨_,rfl⟩⟩⟩
noncomputable abbrev askD(at_:Int)(ws:List Wish)(p:Wish)(l:List Int)(k:Int)(cs:List Wish):List D:=[.int at_,.lst (ws.map wishD),wishD p,letD l,.tup [.int k,.lst (cs.map wishD)]]
noncomputable abbrev gV(at_:Int)(ws:List Wish)(p:Wish)(l:List Int)(k:Int)(cs:List Wish)(r:Gm):Gm:=some (.val (.int at_))::some (.val (.lst (ws.map wishD)))::some (.val (wishD p))::some (.val (letD l))::some (.val (.tup [.int k,.lst (cs.map wishD)]))::r
theorem GP(ne:ws≠[]):ixF (.lst (ws.map wishD)) (.int 0)=some (wishD (ws.headD [])):=by
 cases ws with
 | nil=>exact absurd rfl ne
 | cons w ws=>simp
theorem cat6(h:ws.length+cs.length<=100):catF (.lst (ws.map wishD)) (.lst (cs.map wishD))=some ((ws++cs).map wishD):=by
 rw[SM];exact if_pos (by rw[p_,p_];unfold lim;omega)
theorem asked6{p:Wish}(G:Good ws p l cs)(a0:0<=at_)(qe:at_ < 12)(jw:at_=11->∃w∈ws,w.length=l.length):
  (y9 (askD at_ ws p l k cs)=if sameB (thr at_ ws p l cs) then none else some 0)/\(sameB (thr at_ ws p l cs)=true->∃d,cvF zD (askD at_ ws p l k cs)=some d):=by
 obtain⟨⟨lw,jy⟩,hw,hp,l3,hc,lc⟩:=G;have ne:=Sf.mp lw
 have p3:p.length<=3:=by
  obtain⟨f,_,f3,hf⟩:=hp;rw[hf.len];exact f3
 obtain⟨v,ev⟩:∃v:Int,ixF (wishD p) (.int 0)=some (pairD (v,(p.headD (0,0)).2)):=by
  cases p with
  | nil =>
   obtain⟨f,f1,_,hf⟩:=hp;have:=hf.len;simp at this;omega
  | cons q p=>exact⟨q.1,by simp[wishD]⟩
 obtain⟨Γ,cw⟩:∃Γ:Gm,Γ=gV at_ ws p l k cs [some (.val (.lst (trees v)))]:=⟨_,rfl⟩
 have T:TA (xp (gV at_ ws p l k cs [none])) (zU (gV at_ ws p l k cs [none])) Γ (sameB (thr at_ ws p l cs)):=by
  unfold xp zU;rw[xW (Γ1:=Γ) (by rw[cw];refine vR ?_;simp[ev]),DV (Γ1:=Γ) (by rw[cw];refine vR ?_;simp[ev])];have cq:∀j:Int,tst (op2 (eqF false) (nm 0) (ret (.int j))) Γ=some (decide (at_=j),Γ):=λj=>xF (wq (c:=.int at_) (by rw[cw];rfl) rfl z7)
  refine wL (ds:=[wishD p,letD l]) (cq 0) (by rw[cw];rfl) (λh=>?_) λn0=>?_
  ·rw[show thr at_ ws p l cs=[wT p,l.map D.int] from if_pos (of_decide_eq_true h)];refine⟨Bm,λhb=>fnE1 (by rw[cw];rfl) ⟨_,Fk ?_ (by omega)⟩⟩;have:=v7.mp hb (wT p) (by simp) (l.map D.int) (by simp)
   rwa [v9,p_] at this
  have n0:=of_decide_eq_false n0;have i0:=GP ne
  have a1:consA (op2 ixF (nm 1) (ret (.int 0))) (consA (nm 2) nilA) Γ=some ([wishD (ws.headD []),wishD p],Γ):=by
   rw[cw];refine vR ?_;simp only[vJ,xl];exact⟨_,_,rfl,_,_,rfl,wishD (ws.headD []),_,by rw[i0];rfl,_,_,rfl,_,_,rfl,rfl,rfl⟩
  refine wL (cq 1) a1 (λh=>?_) λn1=>?_
  ·rw[show thr at_ ws p l cs=[wT (ws.headD []),wT p] from(if_neg n0).trans (if_pos (of_decide_eq_true h))];refine⟨Bm,λhb=>fnE1 a1 ?_⟩;have:=v7.mp hb (wT (ws.headD [])) (by simp) (wT p) (by simp);rw[v9,v9] at this;exact⟨_,Al this (by omega)⟩
  have n1:=of_decide_eq_false n1;have li:=Ds ne
  have a2:consA (nm 2) (consA (op2 ixF (nm 1) (un1 negI (ret (.int 1)))) nilA) Γ=some ([wishD p,wishD (ws.getLast ne)],Γ):=by
   rw[cw];refine vR ?_;simp only[vJ,xl];exact⟨_,_,rfl,_,_,rfl,_,_,rfl,_,_,by show lft (atI (ws.map wishD) (-1)) _=_;rw[li];rfl,_,_,rfl,rfl,rfl⟩
  refine wL (cq 2) a2 (λh=>?_) λn2=>?_
  ·rw[show thr at_ ws p l cs=[wT p,wT (ws.getLast ne)] from(if_neg n0).trans ((if_neg n1).trans ((if_pos (of_decide_eq_true h)).trans (by rw[T6 ne];rfl)))];refine⟨Bm,λhb=>fnE1 a2 ?_⟩;have:=v7.mp hb (wT p) (by simp) (wT (ws.getLast ne)) (by simp);rw[v9,v9] at this;exact⟨_,Ea this (by omega)⟩
  have n2:=of_decide_eq_false n2
  have lj:at_ < 8->sameB (thr at_ ws p l cs)=sameB ((p::ws).map wT):=λh=>by
   unfold thr;rw[if_neg n0,if_neg n1,if_neg n2,if_pos h];exact GB (λt ht=>⟨t,by simp at ht ⊢;exact ht.symm,rfl⟩) λt ht=>⟨t,by simp at ht ⊢;exact ht.symm,rfl⟩
  have qf:sameB ((p::ws).map wT)=true->∃n,n<=3/\Wf n p/\∀w∈ws,Wf n w:=λhb=>by
   obtain⟨n,h1,h3,h⟩:=xX (ws:=p::ws) (by simp) (λw fE=>(A_.mp fE).elim (λe=>e▸hp) (hw w)) hb;exact⟨n,h3,h p v_,λw hw=>h w (s_ _ hw)⟩
  refine wL (ds:=[.lst (ws.map wishD),wishD p]) (cq 3) (by rw[cw];rfl) (λh=>?_) λn3=>?_
  ·rw[lj (by have:=of_decide_eq_true h;omega)];refine⟨EJ (by omega),λhb=>fnE1 (by rw[cw];rfl) ?_⟩;obtain⟨n,h3,hp,hw⟩:=qf hb;obtain⟨d,e,_⟩:=A7 hw (by omega) h3 hp;exact⟨d,e⟩
  have n3:=of_decide_eq_false n3;by_cases h8:at_ < 8
  ·obtain⟨t,et,ht⟩:∃t,atI (trees v) (at_ - 4)=some t/\∀n,n<=3->Wf n p->(∀w∈ws,Wf n w)->∃b,cvF (vE 10) [.lst (ws.map wishD),wishD p,t]=some (.bl b):=by
    rcases(show at_=4\/at_=5\/at_=6\/at_=7 by omega) with rfl | rfl | rfl | rfl
    ·exact⟨_,rfl,λn h3 hp hw=>by6 hw hp h3 (by omega) 9 0⟩
    ·exact⟨_,rfl,λn h3 hp hw=>by6 hw hp h3 (by omega) 9 9⟩
    ·exact⟨_,rfl,λn h3 hp hw=>cut6 (f:=0) hp h3 (λq hq=>by6 hw hq h3 (by omega) 8 0) λq hq=>by6 hw hq h3 (by omega) 8 0⟩
    ·exact⟨_,rfl,λn h3 hp hw=>cut6 (f:=7) hp h3 (λq hq=>by6 hw hq h3 (by omega) 8 (-1)) λq hq=>by6 hw hq h3 (by omega) 8 0⟩
   have a5:consA (nm 1) (consA (nm 2) (consA (op2 ixF (nm 5) (op2 subI (nm 0) (ret (.int 4)))) nilA)) Γ=some ([.lst (ws.map wishD),wishD p,t],Γ):=by
    rw[cw];refine vR ?_;simp only[vJ,xl];exact⟨_,_,rfl,_,_,rfl,_,_,rfl,_,_,rfl,_,_,rfl,_,_,rfl,_,_,by show lft (atI (trees v) (at_ - 4)) _=_;rw[et];rfl,_,_,rfl,rfl,rfl⟩
   refine wL (k:=true) (by refine(xF (wq (c:=.int at_) (by rw[cw];rfl) rfl rfl)).trans ?_;rw[decide_eq_true h8]) a5 (λ_=>?_) λz=>nomatch z
   rw[lj h8];refine⟨EJ (by omega),λhb=>fnE1 a5 ?_⟩;obtain⟨n,h3,hp,hw⟩:=qf hb;exact cuts6 hp hw (by omega) (ht n h3 hp hw)
  refine EV (by refine(xF (wq (c:=.int at_) (by rw[cw];rfl) rfl rfl)).trans ?_;rw[decide_eq_false h8]) ?_
  have jz:at_≠11->thr at_ ws p l cs=ws.map wT:=λh=>by
   unfold thr;rw[if_neg n0,if_neg n1,if_neg n2,if_neg h8,if_neg h]
  have e1:consA (nm 1) nilA Γ=some ([.lst (ws.map wishD)],Γ):=by rw[cw];rfl
  refine wL (cq 8) e1 (λh=>?_) λn8=>?_
  ·rw[jz (by have:=of_decide_eq_true h;omega)];refine⟨Eo,λhb=>?_⟩;obtain⟨n,h1,h3,hw⟩:=xX ne hw hb;obtain⟨T,e,_⟩:=roof6 hw h1 h3 (by omega);exact fnO1 e1 e
  refine wL (cq 9) e1 (λh=>?_) λn9=>?_
  ·rw[jz (by have:=of_decide_eq_true h;omega)];refine⟨BM,λhb=>?_⟩;obtain⟨n,h1,h3,hw⟩:=xX ne hw hb;obtain⟨d,e⟩:=spare6 hw h1 h3 (by omega);exact fnO1 e1 e
  refine wL (cq 10) e1 (λh=>?_) λtE=>?_
  ·rw[jz (by have:=of_decide_eq_true h;omega)];refine⟨BM,λhb=>?_⟩;obtain⟨n,h1,h3,hw⟩:=xX ne hw hb;exact fnE1 e1 (fewest6 hw h1 h3 (by omega))
  have qg:at_=11:=by
   have:=of_decide_eq_false n8;have:=of_decide_eq_false n9;have:=of_decide_eq_false tE;omega
  obtain⟨w,fE,ew⟩:=jw qg
  have lO:thr at_ ws p l cs=(ws++cs).map wT:=by
   unfold thr;rw[if_neg n0,if_neg n1,if_neg n2,if_neg h8,if_pos qg]
  have tF:sameB ((ws++cs).map wT)=sameB ((ws++cs).map wT++[l.map D.int]):=by
   refine GB (λt ht=>⟨t,Rl _ ht,rfl⟩) λt ht=>?_
   rcases Q8.mp ht with h | h
   ·exact⟨t,h,rfl⟩
   ·rw[q_.mp h];exact⟨wT w,Re.mpr ⟨w,Rl _ fE,rfl⟩,by rw[v9,p_,ew]⟩
  rw[lO];refine G1 (ds:=[.lst (ws.map wishD),.tup [.int k,.lst (cs.map wishD),.tup [.str "left", letD l]]]) (by rw[cw];rfl) (by rw[tF];exact LV (by omega) (by omega)) λhb=>fnE1 (by rw[cw];rfl) ?_
  obtain⟨n,h1,h3,hf⟩:=xX (ws:=ws++cs) (by simp[ne]) (λw h=>(Q8.mp h).elim (hw w) (hc w)) hb;have ha:∀w∈ws,Wf n w:=λw h=>hf w (Rl _ h)
  obtain⟨b,e⟩:=isfew6 (m:=k) (sm:=cs) (l:=l) ha h1 h3 (by omega) (λw h=>hf w (Q1 _ h)) (by omega) (by rw[←ew,(ha w fE).len]);exact⟨_,e⟩
 unfold TA at T;cases hb:sameB (thr at_ ws p l cs) with
 | true =>
  rw[hb,if_pos rfl] at T;obtain⟨t1,d,t2⟩:=T;refine⟨?_,λ_=>⟨d,vS rfl λKE k1 _=>⟨_,_,t2,k1 _ ⟨_,by rw[cw];rfl⟩⟩⟩⟩;show(xp _).map _=_;exact congrArg (W3 _) t1
 | false =>
  rw[hb,if_neg (by decide)] at T;refine⟨?_,λz=>nomatch z⟩;show(xp _).map _=_;exact congrArg (W3 _) T
end
theorem xj{c:M Bool}{a b:M Fl}{Q:Fl->Gm->Prop}:wp (ifS c a b) Γ Q↔wp c Γ λk Γ1=>if k=true then wp a Γ1 Q else wp b Γ1 Q:=Jl
theorem DH:∀(xs:List Int) (a b:Int),xs.foldl mi a<=a/\b<=xs.foldl mx b/\∀y∈xs,xs.foldl mi a<=y/\y<=xs.foldl mx b
 | [],a,b=>⟨Sk _,Sk _,by simp⟩
 | y::xs,a,b=>by
  obtain⟨h1,h2,h3⟩:=DH xs (mi a y) (mx b y);have h4:mi a y<=a/\mi a y<=y/\b<=mx b y/\y<=mx b y:=by unfold mi mx;split<;>split<;>omega
  simp only[Vi];refine⟨by omega,by omega,λz hz=>?_⟩
  rcases A_.mp hz with e | e
  ·rw[e];omega
  ·exact h3 z e
theorem Ef:∀(xs:List Int) (a:Int),(∀y∈xs,y=a)->xs.foldl mi a=a/\xs.foldl mx a=a
 | [],a,_=>⟨rfl,rfl⟩
 | y::xs,a,h=>by
  have e:=h y v_;rw[Vi,Vi,e,show mi a a=a by simp[mi],show mx a a=a by simp[mx]];exact Ef xs a λz hz=>h z (s_ _ hz)
theorem Mq(ne:ts≠[]):decide (minI (ts.map λt=>(t.length:Int))=maxI 0 (ts.map λt=>(t.length:Int)))=sameB ts:=by
 cases ts with
 | nil=>exact absurd rfl ne
 | cons t ts =>
  obtain⟨h1,h2,h3⟩:=DH (ts.map λt=>(t.length:Int)) t.length t.length;refine Vr.mpr ⟨λh=>?_,λh=>decide_eq_true ?_⟩
  ·have h:(ts.map λt=>(t.length:Int)).foldl mi t.length=(ts.map λt=>(t.length:Int)).foldl mx t.length:=of_decide_eq_true h;refine t_.mpr λu hu=>decide_eq_true ?_
   rcases A_.mp hu with e | e
   ·rw[e];rfl
   ·have:=h3 _ (Re.mpr ⟨u,e,rfl⟩);show u.length=t.length;omega
  ·obtain⟨e1,e2⟩:=Ef (ts.map λt=>(t.length:Int)) t.length λy hy=>by
    obtain⟨u,hu,rfl⟩:=Re.mp hy;rw[v7.mp h u (s_ _ hu) t v_]
   exact e1.trans e2.symm
section
variable{ws cs:List Wish}{w0 p p':Wish}{l:List Int}{q:Int×Int}{at_ k:Int}
noncomputable def dueS(at_:Int)(ws:List Wish)(p:Wish)(l:List Int)(cs:List Wish):PySem.Str:=if sameB (thr at_ ws p l cs) then "told" else "kin"
theorem OX(ne:ws≠[]):thr at_ ws p l cs≠[]:=by
 unfold thr;split
 ·simp
 split
 ·simp
 split
 ·simp
 split
 ·simp
 split
 ·simp[ne]
 ·simp[ne]
theorem Kw(lw:ws.length<=6)(lc:cs.length<=5):(thr at_ ws p l cs).length<=11:=by
 unfold thr;split
 ·simp
 split
 ·simp
 split
 ·simp
 split
 ·simp;omega
 split
 ·simp;omega
 ·simp;omega
theorem sz6(g:Γ[5]?=some (some (.val (.lst (ts.map D.tup)))))(hl:ts.length<=100):frz (compO 1 (itS (nm 5)) (tgN 0) (ret true) (fn1 lenF (consA (nm 0) nilA))) Γ=some (.lst ((ts.map λt=>(t.length:Int)).map D.int),Γ):=by
 refine vR ?_;rw[map_map];simp;refine vT ts D.tup (λ_=>true) (λt=>.int t.length) ?_;simp[g];omega
theorem due6(G:Good ws p l cs):cvF yW (askD at_ ws p l k cs)=some (.str (dueS at_ ws p l cs)):=by
 obtain⟨⟨lw,jy⟩,_,_,_,_,lc⟩:=G;have ne:=Sf.mp lw;refine vS rfl λKE k1 _=>?_
 rw[B3];show wp _ (gV at_ ws p l k cs [none,none]) _;refine Hd (d:=.lst (ws.map wishD)) rfl rfl ?_;show wp _ (gV at_ ws p l k cs [some (.val (.lst (ws.map wishD))),none]) _;have cq:∀j:Int,tst (op2 (eqF false) (nm 0) (ret (.int j))) (gV at_ ws p l k cs [some (.val (.lst (ws.map wishD))),none])=some (decide (at_=j),gV at_ ws p l k cs [some (.val (.lst (ws.map wishD))),none]):=λj=>xF (wq (c:=.int at_) rfl rfl z7)
 refine wt (λΓ=>Γ=gV at_ ws p l k cs [some (.val (.lst ((thr at_ ws p l cs).map D.tup))),none]) ?_ ?_
 ·rintro K hK -;unfold thr at hK;refine xj.mpr ⟨_,_,cq 0,?_⟩;by_cases y0:at_=0
  ·rw[if_pos y0] at hK;rw[if_pos (decide_eq_true y0)];exact⟨_,_,rfl,hK _ rfl⟩
  rw[if_neg y0] at hK;rw[if_neg (by simpa using y0)];refine xj.mpr ⟨_,_,cq 1,?_⟩;by_cases y1:at_=1
  ·rw[if_pos y1] at hK;rw[if_pos (decide_eq_true y1)];exact⟨_,_,by refine vR ?_;simp[GP ne];exact⟨rfl,rfl⟩,hK _ rfl⟩
  rw[if_neg y1] at hK;rw[if_neg (by simpa using y1)];refine xj.mpr ⟨_,_,cq 2,?_⟩;by_cases y2:at_=2
  ·rw[if_pos y2] at hK;rw[if_pos (decide_eq_true y2)];have li:=Ds ne
   have e:frz (lstA (consA (nm 2) (consA (op2 ixF (nm 1) (un1 negI (ret (.int 1)))) nilA))) (gV at_ ws p l k cs [some (.val (.lst (ws.map wishD))),none])=some (.lst [wishD p,wishD (ws.getLast ne)],gV at_ ws p l k cs [some (.val (.lst (ws.map wishD))),none]):=by
    refine vR ?_;simp only[wI,A3,vJ,xl];exact⟨_,_,rfl,_,_,rfl,_,_,rfl,_,_,by show lft (atI (ws.map wishD) (-1)) _=_;rw[li];rfl,_,_,rfl,_,_,rfl,rfl,rfl⟩
   exact⟨_,_,by unfold setV;rw[vn e];rfl,hK _ (by rw[T6 ne];rfl)⟩
  rw[if_neg y2] at hK;rw[if_neg (by simpa using y2)];refine xj.mpr ⟨_,_,xF (wq (c:=.int at_) (d:=.int 8) rfl rfl rfl),?_⟩;by_cases y3:at_ < 8
  ·rw[if_pos y3] at hK;rw[if_pos (decide_eq_true y3)];have c:=cat6 (ws:=ws) (cs:=[p]) (by simp;omega);exact⟨_,_,by unfold setV;rw[vn (yy (wq rfl rfl c))];rfl,hK _ (by rw[←wT_D];rfl)⟩
  rw[if_neg y3] at hK;rw[if_neg (by simpa using y3)];refine xj.mpr ⟨_,_,cq 11,?_⟩;by_cases y4:at_=11
  ·rw[if_pos y4] at hK;rw[if_pos (decide_eq_true y4)];have c:=cat6 (ws:=ws) (cs:=cs) (by omega);exact⟨_,_,by unfold setV;rw[vn (yy (wq rfl rfl c))];rfl,hK _ (by rw[←wT_D];rfl)⟩
  rw[if_neg y4] at hK;rw[if_neg (by simpa using y4)];exact⟨_,_,rfl,hK _ (by rw[←wT_D])⟩
 ·rintro Γ rfl;have ne:=OX (at_:=at_) (p:=p) (l:=l) (cs:=cs) ne;have tl:=Kw (at_:=at_) (p:=p) (l:=l) jy lc;unfold dueS at k1;generalize thr at_ ws p l cs=ts at *;refine Hd (sz6 rfl (by omega)) rfl ?_;show wp _ (gV at_ ws p l k cs [some (.val (.lst (ts.map D.tup))),some (.val (.lst ((ts.map λt=>(t.length:Int)).map D.int)))]) _;have hl:0 < (ts.map λt=>(t.length:Int)).length:=by rw[p_];exact Sf.mpr ne
  have v:=M5 (x:=ret (.str "told")) (y:=ret (.str "kin")) (xF (wq (fn1E (t:=consA (nm 6) nilA) (Γ:=gV at_ ws p l k cs [some (.val (.lst (ts.map D.tup))),some (.val (.lst ((ts.map λt=>(t.length:Int)).map D.int)))]) rfl (NY hl)) (fn1E (t:=consA (nm 6) nilA) rfl (Jn hl)) z7)) rfl rfl;rw[Mq ne] at v;refine⟨_,_,by unfold retS;rw[vn v];rfl,?_⟩;have:=k1 (gV at_ ws p l k cs [some (.val (.lst (ts.map D.tup))),some (.val (.lst ((ts.map λt=>(t.length:Int)).map D.int)))]) ⟨_,rfl⟩;cases hx:sameB ts with
  | true=>rw[hx] at this;exact this
  | false=>rw[hx] at this;exact this
end
section
variable{ws cs:List Wish}{w0 p p':Wish}{l:List Int}{q:Int×Int}{at_ k:Int}
theorem F5{s:PySem.Str}{K:Fl->Gm->Prop}(h:ifV (tst (op2 (isNF false) (nm 5) (ret .non))) (ret (.str "told")) (fn1 (cvF wz) (consA (nm 5) nilA)) (gV at_ ws p l k cs [some (.val d),some (.val (.lst (ws.map wishD))),some (.val (.lst (cs.map wishD))),none])=some (.str s,gV at_ ws p l k cs [some (.val d),some (.val (.lst (ws.map wishD))),some (.val (.lst (cs.map wishD))),none]))(k1:K (.rt (.val (.str s))) (gV at_ ws p l k cs [some (.val d),some (.val (.lst (ws.map wishD))),some (.val (.lst (cs.map wishD))),none])):wp (seqS (ifS (orT (tst (op2 (eqF true) (nm 6) (nm 1))) (tst (op2 (eqF true) (nm 7) (op2 ixF (nm 4) (ret (.int 1)))))) (retS (ret (.str "odd"))) (ret .nx)) (retS (ifV (tst (op2 (isNF false) (nm 5) (ret .non))) (ret (.str "told")) (fn1 (cvF wz) (consA (nm 5) nilA))))) (gV at_ ws p l k cs [some (.val d),some (.val (.lst (ws.map wishD))),some (.val (.lst (cs.map wishD))),none]) K:=
 Kz (orE (neE (d:=.lst (ws.map wishD)) rfl rfl (z_ xx (by decide))) (neE (d:=.lst (cs.map wishD)) rfl rfl (z_ xx (by decide)))) (λz=>nomatch z) λ_=>⟨_,_,by unfold retS;rw[vn h];rfl,k1⟩
theorem told6(G:Good ws p l cs)(a0:0<=at_)(qe:at_ < 12)(jw:at_=11->∃w∈ws,w.length=l.length):cvF yi (askD at_ ws p l k cs)=some (.str (dueS at_ ws p l cs)):=by
 obtain⟨ax,ag⟩:=asked6 (k:=k) G a0 qe jw;refine vS rfl λKE k1 _=>?_
 rw[AY];refine uN λK hK _=>⟨_,_,rfl,hK _ ?_⟩
 have ls:∀us:List Wish,lstF [.lst (us.map wishD)]=some (us.map wishD):=λus=>by simp
 refine uN λK hK _=>⟨_,_,by unfold setV;rw[vn (yy (xk rfl (ls _)))];rfl,hK _ ?_⟩
 refine uN λK hK _=>⟨_,_,by unfold setV;rw[vn (yy (xk rfl (ls _)))];rfl,hK _ ?_⟩
 refine uN λK hK _=>?_
 show wp _ (gV at_ ws p l k cs [some (.val .non),some (.val (.lst (ws.map wishD))),some (.val (.lst (cs.map wishD))),none]) _;unfold dueS at k1;cases hb:sameB (thr at_ ws p l cs) with
 | true =>
  rw[hb] at ax k1;obtain⟨d,e⟩:=ag hb;exact NI (by rw[wA rfl,ax];rfl) ⟨_,_,Lp (xk rfl e),hK _ (F5 rfl (k1 _ ⟨_,rfl⟩))⟩
 | false =>
  rw[hb] at ax k1
  exact Hx (c:=0) (Γ2:=gV at_ ws p l k cs [some (.val (.exc "NoKin" none)),some (.val (.lst (ws.map wishD))),some (.val (.lst (cs.map wishD))),none]) (by rw[wA rfl,ax];rfl) rfl (hK _ (F5 (by
   show fn1 (cvF wz) (consA (nm 5) nilA) (gV at_ ws p l k cs [some (.val (.exc "NoKin" none)),some (.val (.lst (ws.map wishD))),some (.val (.lst (cs.map wishD))),none])=_
   exact fn1E rfl Oo) (k1 _ ⟨_,rfl⟩)))
theorem put6{o:Wish}{Q:R->List D->Prop}(hc:PotOk c)(lw:ws.length<=100)(k:∀(us:List Wish) c',(∀w∈us,w=o\/w∈ws)->(∀w∈ws,w∈us)->us.length=ws.length+1->PotOk c'->Q (.own (us.map wishD)) c'):wpB xM c [.lst (ws.map wishD),wishD o] Q:=by
 refine xt rfl λKE hE _=>?_
 rw[Ch];refine uN ?_;rintro K hK -;simp[isMut,R.mut];refine vv hc (by omega) (by omega) λz c z0 z1 hc=>?_
 simp;refine hK _ ?_;obtain⟨z,rfl⟩:∃y:Nat,z=(y:Int):=⟨z.toNat,by omega⟩;have lt:(ws.take z).length=z:=by rw[UC];omega
 have ct:cutD (ws.map wishD) none (some (z:Int))=(ws.take z).map wishD:=by rw[VP];exact BU (n:=z)
 have cd:cutD (ws.map wishD) (some (z:Int)) none=(ws.drop z).map wishD:=by rw[W8];exact CW (n:=z)
 simp[ct,cd];refine⟨by omega,by omega,hE _ _ _ ⟨_,rfl⟩ ?_⟩;have:=k (ws.take z++[o]++ws.drop z) c (λw hw=>?_) (λw hw=>?_) ?_ hc
 ·simpa using this
 ·simp at hw
  rcases hw with h | h | h
  ·exact .inr (R4 h)
  ·exact .inl h
  ·exact .inr (S1 h)
 ·rw[←Tw z ws] at hw;simp
  rcases Q8.mp hw with h | h
  ·exact .inl h
  ·exact .inr (.inr h)
 ·simp;omega
end
@[simp ↓] theorem PL{x:PySem.Str}{t:M (List D)}{Q:D->Gm->Prop}:wp (mkE x t) Γ Q↔wp t Γ λds Γ1=>wp (lft (if ds.length<=5 then some (.exc x none) else none)) Γ1 Q:=by simp only[mkE,vh]
noncomputable abbrev someX(n:Int):List D:=[.exc "NoKin" none,.exc "NoHouse" none,.exc "NoRoad" none,.exc "Ring" none,.exc "NoHold" none,.exc "NoLetter" none,.exc "NoStep" none,.exc "NoText" none,.exc "NoRow" none,.exc "NoLog" (some n)]
noncomputable abbrev namesX:List D:=[.str "kin", .str "house", .str "road", .str "ring", .str "hold", .str "letter", .str "step", .str "text", .str "row", .str "log"]
theorem made6{Q:R->List D->Prop}(hc:PotOk c)(k:∀c',PotOk c'->Q (.val (.bl true)) c'):wpB yZ c [] Q:=by
 refine xt rfl λKE hE _=>?_
 rw[A1];refine uN ?_;rintro K hK -;simp[isMut,R.mut];refine vv hc (by omega) (by omega) λn c h0 h1 hc=>?_
 simp;refine hK _ ?_;have f:few9 n:=by unfold few9;omega
 have e:mkLF (.int n)=some (.exc "NoLog" (some n)):=by show(if few9 n then _ else _)=_;rw[if_pos f]
 refine uN ?_;rintro K hK -;obtain⟨x0,m0⟩:∃x,mulSF (.str "a b") (.int 20)=some (.str x):=⟨_,rfl⟩;simp[isMut,R.mut,m0];refine vv hc (by omega) (by omega) λz c z0 z1 hc=>?_
 obtain⟨x,ex⟩:∃x,atI [D.str "", D.str "a", D.str x0] z=some (.str x):=by
  rcases(show z=0\/z=1\/z=2 by omega) with rfl | rfl | rfl
  ·exact⟨_,rfl⟩
  ·exact⟨_,rfl⟩
  ·exact⟨_,rfl⟩
 simp[ex];refine hK _ ?_;clear hK ex;refine uN ?_;rintro K hK -;refine⟨.nx,[some (.bor c),some (.val (.int n)),some (.val (.str x)),some (.val (.lst [.exc "NoKin" none,.exc "NoHouse" none,.exc "NoRoad" none,.exc "Ring" none,.exc "NoHold" none,.exc "NoLetter" none,.exc "NoStep" none])),none],by kernel_rfl,hK _ ?_⟩;refine uN ?_;rintro K hK -;refine⟨.nx,[some (.bor c),some (.val (.int n)),some (.val (.str x)),some (.val (.lst (someX n))),none],?_,hK _ ?_⟩
 ·refine vR ?_;simp[un1,e]
 refine uN ?_;rintro K hK -;refine⟨.nx,[some (.bor c),some (.val (.int n)),some (.val (.str x)),some (.val (.lst (someX n))),some (.val (.lst namesX))],by kernel_rfl,hK _ ?_⟩;have e4:op2 (eqF false) (frz (compO 1 (itS (nm 3)) (tgN 0) (ret true) (fn1 (cvF wz) (consA (nm 0) nilA)))) (nm 4) [some (.bor c),some (.val (.int n)),some (.val (.str x)),some (.val (.lst (someX n))),some (.val (.lst namesX))]=some (.bl true,[some (.bor c),some (.val (.int n)),some (.val (.str x)),some (.val (.lst (someX n))),some (.val (.lst namesX))]):=by kernel_rfl
 have e5:op2 (eqF false) (un1 numF (op2 ixF (nm 3) (ret (.int 9)))) (nm 1) [some (.bor c),some (.val (.int n)),some (.val (.str x)),some (.val (.lst (someX n))),some (.val (.lst namesX))]=some (.bl true,[some (.bor c),some (.val (.int n)),some (.val (.str x)),some (.val (.lst (someX n))),some (.val (.lst namesX))]):=wq (c:=.int n) (by kernel_rfl) rfl (by rw[z7,decide_eq_true rfl]);exact⟨.rt (.val (.bl true)),_,by unfold retS andV;rw[vn (show bnd _ _ _=some (.bl true,_) by rw[vn e4];exact e5)];rfl,hE _ _ _ ⟨_,rfl⟩ (k _ hc)⟩
theorem Ei{j:Nat}{g:List R->Option (R×List R)}{t:M (List D)}{QD:D->Gm->Prop}(hj:Γ[j]?=some (some (.own c)))(ht:t Γ=some (ds,Γ))(k:wpB g c ds λr c'=>∃d,r=.val d/\QD d (Γ.set j (some (.own c')))):wp (cbV j g t) Γ QD:=by
 obtain⟨r,c',e1,d,rfl,k⟩:=k
 have e2:callB j g t Γ=some (.val d,Γ.set j (some (.own c'))):=by
  unfold callB mutS;have:isMut Γ j=true:=by unfold isMut;rw[hj];rfl
  rw[this];simp only[bnd,ht,hj,e1,if_true]
 exact⟨d,_,by simp[cbV,bnd,lft,asV,e2],k⟩
theorem BJ{j:Nat}{g:List R->Option (R×List R)}{t:M (List D)}{QL:List D->Gm->Prop}(hj:Γ[j]?=some (some (.own c)))(ht:t Γ=some (ds,Γ))(k:wpB g c ds λr c'=>∃d,r=.own d/\QL d (Γ.set j (some (.own c')))):wp (cbO j g t) Γ QL:=by
 obtain⟨r,c',e1,d,rfl,k⟩:=k
 have e2:callB j g t Γ=some (.own d,Γ.set j (some (.own c'))):=by
  unfold callB mutS;have:isMut Γ j=true:=by unfold isMut;rw[hj];rfl
  rw[this];simp only[bnd,ht,hj,e1,if_true]
 exact⟨d,_,by simp[cbO,bnd,lft,asO,e2],k⟩
section
variable {ws cs:List Wish}{p:Wish}{l:List Int}{k:Int}
noncomputable def caseD(ws:List Wish)(p:Wish)(l:List Int)(k:Int)(cs:List Wish):D:=.tup [.lst (ws.map wishD),wishD p,letD l,.tup [.int k,.lst (cs.map wishD)]]
def CaseOk(d:D):Prop:=∃ws p l k cs,d=caseD ws p l k cs/\Good ws p l cs/\∃w∈ws,w.length=l.length
theorem lows6(g:Γ[5]?=some (some (.val (wishD p))))(hl:p.length<=100):fn1 tupF (consA (frz (compO 1 (itS (nm 5)) (tgN 0) (ret true) (op2 ixF (nm 0) (ret (.int 0))))) nilA) Γ=some (letD (p.map (·.1)),Γ):=by
 have e:frz (compO 1 (itS (nm 5)) (tgN 0) (ret true) (op2 ixF (nm 0) (ret (.int 0)))) Γ=some (.lst ((p.map (·.1)).map D.int),Γ):=by
  refine vR ?_;rw[map_map];simp;refine vT p pairD (λ_=>true) (λq=>.int q.1) ?_;simp[g,wishD];omega
 refine fn1E (ds:=[.lst ((p.map (·.1)).map D.int)]) (by simp[consA,bnd,e,nilA,ret]) ?_;simp[letD]
theorem last6{o:Wish}(g5:Γ[5]?=some (some (.val (wishD o))))(g6:Γ[6]?=some (some (.val (.lst (ws.map wishD)))))(g7:Γ[7]?=some (some (.val (wishD p))))(g9:Γ[9]?=some (some (.val (.tup [.int k,.lst (cs.map wishD)]))))(hl:o.length<=100):consA (ret (.int 0)) (consA (nm 6) (consA (nm 7) (consA (fn1 tupF (consA (frz (compO 1 (itS (nm 5)) (tgN 0) (ret true) (op2 ixF (nm 0) (ret (.int 0))))) nilA)) (consA (nm 9) nilA)))) Γ=some (askD 0 ws p (o.map (·.1)) k cs,Γ):=by
 have cE:∀{g:M D}{t:M (List D)}{d:D}{ds:List D},g Γ=some (d,Γ)->t Γ=some (ds,Γ)->consA g t Γ=some (d::ds,Γ):=λe1 e2=>by simp only[consA,bnd,e1,e2,ret]
 exact cE rfl (cE (by simp[nm,g6]) (cE (by simp[nm,g7]) (cE (lows6 g5 hl) (cE (by simp[nm,g9]) rfl))))
end
noncomputable abbrev gZ(x0:Option R)(c:List D)(x2:Option R)(f g:Nat)(o:Wish)(r:Gm):Gm:=x0::some (.own c)::x2::some (.val (.int f))::some (.val (.int g))::some (.val (wishD o))::r
noncomputable abbrev gY(x0:Option R)(c:List D)(x2:Option R)(f g:Nat)(o:Wish)(W:List Wish)(p:Wish)(l:List Int)(k:Int)(C:List Wish)(r:Gm):Gm:=gZ x0 c x2 f g o (some (.val (.lst (W.map wishD)))::some (.val (wishD p))::some (.val (letD l))::some (.val (.tup [.int k,.lst (C.map wishD)]))::r)
theorem law_true(ns:List Int)(fN:ns.length<=63):∃rs,wX [.val (.lst (ns.map D.int))]=some (.val (.bl true),rs):=by
 have bp:wpF wX [.val (.lst (ns.map D.int))] λr _=>r=.val (.bl true):=by
  refine vG rfl λKE hE _=>?_
  rw[Ca];refine uN ?_;rintro K hK -;obtain⟨c,hc,hp⟩:=Nj ns;simp[hc];refine hK _ ?_;refine uN ?_;rintro K hK hR;simp;refine vU (J:=λi Γ=>∃c x2 x3 x4 x5 x6 x7 x8 x9 dB cj bM bN bO bP br,PotOk c/\Γ=[some (.val (.lst (ns.map .int))),some (.own c),x2,x3,x4,x5,x6,x7,x8,x9,dB,cj,bM,bN,bO,bP,br]) ⟨c,_,_,_,_,_,_,_,_,_,_,_,_,_,_,_,hp,rfl⟩ ?_ ?_
  ·rintro i d Γ - ⟨c,x2,x3,x4,x5,x6,x7,x8,x9,dB,cj,bM,bN,bO,bP,br,hc,rfl⟩ KL bq - - -;clear hK hR hE hp;refine⟨_,_,rfl,?_⟩;show wp _ [some (.val (.lst (ns.map .int))),some (.own c),some (.val d),x3,x4,x5,x6,x7,x8,x9,dB,cj,bM,bN,bO,bP,br] _;have fin:∀{c x2 x3 x4 x5 x6 x7 x8 x9 dB cj bM bN bO bP br},PotOk c->KL .nx [some (.val (.lst (ns.map .int))),some (.own c),x2,x3,x4,x5,x6,x7,x8,x9,dB,cj,bM,bN,bO,bP,br]:=λhc=>bq _ ⟨_,_,_,_,_,_,_,_,_,_,_,_,_,_,_,_,hc,rfl⟩
   clear bq;generalize some (R.val (.lst (ns.map .int)))=x0 at fin ⊢;generalize some (R.val d)=x2;refine uN ?_;rintro K hK -;simp[isMut,R.mut];refine vv hc (by omega) (by omega) λf0 c jV tG hc=>?_
   obtain⟨f,hf⟩:∃f:Nat,1+f0=f:=⟨(1+f0).toNat,by omega⟩;simp[hf];refine hK _ ?_;refine uN ?_;rintro K hK -;simp[isMut,R.mut];refine vv hc (by omega) (by omega) λg0 c tH fX hc=>?_
   obtain⟨g,hg⟩:∃g:Nat,1+((f:Int)+g0) % 3=g:=⟨(1+((f:Int)+g0) % 3).toNat,by omega⟩;simp[hg];refine hK _ ?_;have fg:f≠g:=by omega
   have f1:1<=f:=by omega
   have f3:f<=3:=by omega
   have g1:1<=g:=by omega
   have g3:g<=3:=by omega
   refine uN ?_;rintro K hK -;simp[isMut,R.mut];refine zG hc (by omega) (by omega) (by omega) (by omega) λo c ho hc=>?_
   simp;refine hK _ ?_;clear hf hg jV tG tH fX;show wp _ (gZ x0 c x2 f g o [x6,x7,x8,x9,dB,cj,bM,bN,bO,bP,br]) _;refine uN ?_;rintro K hK -;simp[isMut,R.mut];refine zG hc (by omega) (by omega) (by omega) (by omega) λw0 c ny hc=>?_
   simp[isMut,R.mut];refine Ht hc (by omega) (by omega) (by omega) (by omega) λws c aP lw hc=>?_
   simp;refine⟨by omega,hK _ ?_⟩;show wp _ (gZ x0 c x2 f g o [some (.val (.lst ((w0::ws).map wishD))),x7,x8,x9,dB,cj,bM,bN,bO,bP,br]) _;have ha:∀w∈w0::ws,Wf f w:=λw hw=>(A_.mp hw).elim (λe=>e▸ny) (aP w)
   refine wt (λΓ=>∃c p,PotOk c/\Wf f p/\Γ=gZ x0 c x2 f g o [some (.val (.lst ((w0::ws).map wishD))),some (.val (wishD p)),x8,x9,dB,cj,bM,bN,bO,bP,br]) ?_ ?_
   ·rintro K hK -;simp[isMut,R.mut];refine zG hc (by omega) (by omega) (by omega) (by omega) λp c hp hc=>?_
    simp[isMut,R.mut];refine vv hc (by omega) (by omega) λz c z0 z1 hc=>?_
    obtain⟨u,hu,e⟩:∃u,Wf f u/\atI [wishD p,wishD w0] z=some (wishD u):=by
     rcases(show z=0\/z=1 by omega) with rfl | rfl
     ·exact⟨p,hp,rfl⟩
     ·exact⟨w0,ny,rfl⟩
    simp[e];exact hK _ ⟨_,_,hc,hu,rfl⟩
   have jy:(w0::ws).length<=4/\1<=(w0::ws).length:=by simp;omega
   obtain⟨W,eW⟩:∃W,w0::ws=W:=⟨_,rfl⟩;rw[eW] at ha jy ⊢;clear hc c ny aP lw;rintro Γ ⟨c,p,hc,hp,rfl⟩;refine uN ?_;rintro K hK -;simp;obtain⟨J,hJ⟩:∃J:Nat->List D->Gm->Prop,∀i af Γ,J i af Γ↔∃(c:List D) (l:List Int),PotOk c/\af=l.map D.int/\l.length=i/\Γ=gZ x0 c x2 f g o [some (.val (.lst (W.map wishD))),some (.val (wishD p)),x8,x9,dB,cj,bM,bN,bO,bP,br]:=⟨_,λ_ _ _=>Iff.rfl⟩;refine MR J ?_;simp[isMut,R.mut];refine⟨by omega,by omega,(hJ _ _ _).mpr ⟨c,[],hc,rfl,rfl,rfl⟩,?_,?_⟩
   ·intro i d af Γ2 hd j;obtain⟨c4,l,hc,rfl,hi,rfl⟩:=(hJ _ _ _).mp j;simp[isMut,R.mut];refine vv hc (by omega) (by omega) λx c5 mP uJ hc=>?_
    simp;exact⟨_,_,⟨rfl,rfl⟩,(hJ _ _ _).mpr ⟨c5,l++[x],hc,by simp,by simp[hi],rfl⟩⟩
   intro af Γ2 j;obtain⟨c4,l,hc,rfl,hl,rfl⟩:=(hJ _ _ _).mp j;clear hJ j J;simp;refine hK _ ?_;show wp _ (gZ x0 c4 x2 f g o [some (.val (.lst (W.map wishD))),some (.val (wishD p)),some (.val (letD l)),x9,dB,cj,bM,bN,bO,bP,br]) _;refine uN ?_;rintro K hK -;simp[isMut,R.mut];refine vv hc (by omega) (by omega) λk c k0 k1 hc=>?_
   simp[isMut,R.mut];refine vv hc (by omega) (by omega) λz c z0 z1 hc=>?_
   obtain⟨z,rfl⟩:∃y:Nat,z=(y:Int):=⟨z.toNat,by omega⟩;have ct:cutD (W.map wishD) none (some (z:Int))=(W.take z).map wishD:=by rw[VP];exact BU (n:=z)
   simp[ct];refine hK _ ?_;clear ct;have lC:(W.take z).length<=2:=by rw[UC];omega
   have hC:∀w∈W.take z,Wa w:=λw hw=>⟨f,f1,f3,ha w (R4 hw)⟩
   rw[←VP];generalize W.take z=C at lC hC ⊢;clear z0 z1 z eW w0 ws;show wp _ (gY x0 c x2 f g o W p l k C [dB,cj,bM,bN,bO,bP,br]) _;have hW:∀w∈W,Wa w:=λw hw=>⟨f,f1,f3,ha w hw⟩
   have hO:Wa o:=⟨g,g1,g3,ho⟩;have hP:Wa p:=⟨f,f1,f3,hp⟩;obtain⟨wl,dY⟩:=List.exists_mem_of_length_pos jy.2;have el:wl.length=l.length:=by rw[(ha wl dY).len,hl]
   have more:∀us:List Wish,(∀w∈us,w=o\/w∈W)->∀w∈us,Wa w:=λus h w hw=>(h w hw).elim (λe=>e▸hO) (hW w)
   refine uN ?_;rintro K hK -;simp only[BA,wI,A3];refine vJ.mpr ⟨_,_,rfl,vJ.mpr (Cy.mpr (vJ.mpr (wI.mpr (BJ rfl rfl (put6 hc (by omega) λus c gy sub lu hc=>⟨_,rfl,?_⟩)))))⟩;refine⟨_,_,rfl,_,_,rfl,_,_,rfl,_,_,rfl,by simp,hK _ ?_⟩;show wp _ (gY x0 c x2 f g o W p l k C [some (.val (.lst [caseD W p l k C,caseD us p l k C,caseD W o l k C])),cj,bM,bN,bO,bP,br]) _;refine uN ?_;rintro K hK -;simp only[BA];refine Cy.mpr (vJ.mpr (xl.mpr ⟨_,_,rfl,Ei (ds:=[.int 2]) rfl rfl (vv hc (by omega) (by omega) λb c b0 b1 hc=>⟨_,rfl,?_⟩)⟩));refine⟨_,_,rfl,vJ.mpr (wI.mpr (BJ (ds:=[.lst (C.map wishD),wishD o]) rfl rfl (put6 hc (by omega) λvs c tJ _ lv hc=>⟨_,rfl,?_⟩)))⟩;refine⟨_,_,rfl,_,_,rfl,by simp,hK _ ?_⟩;have hv:∀w∈vs,Wa w:=λw hw=>(tJ w hw).elim (λe=>e▸hO) (hC w)
   show wp _ (gY x0 c x2 f g o W p l k C [some (.val (.lst [caseD W p l k C,caseD us p l k C,caseD W o l k C])),some (.val (.tup [.int (k+b),.lst (vs.map wishD)])),bM,bN,bO,bP,br]) _;refine uN ?_;rintro K hK -;simp only[BA,wI];refine xl.mpr ⟨_,_,rfl,wI.mpr (A3.mpr (vJ.mpr ⟨_,_,rfl,vJ.mpr (Cy.mpr (vJ.mpr (wI.mpr (BJ rfl rfl (put6 hc (by omega) λkG c qh qi uK hc=>⟨_,rfl,?_⟩)))))⟩))⟩;refine⟨_,_,rfl,_,_,rfl,_,_,rfl,_,_,rfl,_,_,rfl,by simp,hK _ ?_⟩
   have all:∀d∈[caseD W p l k C,caseD us p l k C,caseD W o l k C,caseD W p l (k+b) vs,caseD kG o l (k+b) vs],CaseOk d:=by
    intro d hd;simp only[A_,S_,or_false] at hd
    rcases hd with rfl | rfl | rfl | rfl | rfl
    ·exact⟨_,_,_,_,_,rfl,⟨⟨by omega,by omega⟩,hW,hP,by omega,hC,by omega⟩,wl,dY,el⟩
    ·exact⟨_,_,_,_,_,rfl,⟨⟨by omega,by omega⟩,more us gy,hP,by omega,hC,by omega⟩,wl,sub wl dY,el⟩
    ·exact⟨_,_,_,_,_,rfl,⟨⟨by omega,by omega⟩,hW,hO,by omega,hC,by omega⟩,wl,dY,el⟩
    ·exact⟨_,_,_,_,_,rfl,⟨⟨by omega,by omega⟩,hW,hP,by omega,hv,by omega⟩,wl,dY,el⟩
    ·exact⟨_,_,_,_,_,rfl,⟨⟨by omega,by omega⟩,more kG qh,hO,by omega,hv,by omega⟩,wl,qi wl dY,el⟩
   show wp _ (gY x0 c x2 f g o W p l k C [some (.val (.lst [caseD W p l k C,caseD us p l k C,caseD W o l k C,caseD W p l (k+b) vs,caseD kG o l (k+b) vs])),some (.val (.tup [.int (k+b),.lst (vs.map wishD)])),bM,bN,bO,bP,br]) _;generalize some (R.val (.tup [.int (k+b),.lst (vs.map wishD)]))=cj;generalize [caseD W p l k C,caseD us p l k C,caseD W o l k C,caseD W p l (k+b) vs,caseD kG o l (k+b) vs]=L at all ⊢;refine wt (λΓ=>∃bM bN bO bP br,Γ=gY x0 c x2 f g o W p l k C [some (.val (.lst L)),cj,bM,bN,bO,bP,br]) ?_ ?_
   ·rintro K hK -;simp;refine vU (J:=λi Γ=>∃bM bN bO bP br,Γ=gY x0 c x2 f g o W p l k C [some (.val (.lst L)),cj,bM,bN,bO,bP,br]) ⟨_,_,_,_,_,rfl⟩ ?_ ?_
    ·rintro i d Γ hd ⟨bM,bN,bO,bP,br,rfl⟩ K2 hn - - -;obtain⟨ws,p2,l2,k2,cs,rfl,G,jw⟩:=all d (Rg hd);refine⟨_,_,rfl,?_⟩;show wp _ (gY x0 c x2 f g o W p l k C [some (.val (.lst L)),cj,some (.val (.lst (ws.map wishD))),some (.val (wishD p2)),some (.val (letD l2)),some (.val (.tup [.int k2,.lst (cs.map wishD)])),br]) _;simp;refine vU (J:=λi Γ=>∃br,Γ=gY x0 c x2 f g o W p l k C [some (.val (.lst L)),cj,some (.val (.lst (ws.map wishD))),some (.val (wishD p2)),some (.val (letD l2)),some (.val (.tup [.int k2,.lst (cs.map wishD)])),br]) ⟨_,rfl⟩ ?_ ?_
     ·rintro i d Γ hd ⟨br,rfl⟩ K3 tK - - -;obtain⟨rfl,hi⟩:=Bt hd;have td:=told6 (at_:=0+i) (k:=k2) G (by omega) (by omega) λ_=>jw
      have du:=due6 (at_:=0+i) (k:=k2) G;refine⟨_,_,rfl,?_⟩;refine xj.mpr ⟨false,_,neE (fn1E (ds:=askD (0+i) ws p2 l2 k2 cs) rfl td) (fn1E (ds:=askD (0+i) ws p2 l2 k2 cs) rfl du) (by simp[dep]),?_⟩;exact⟨_,_,rfl,tK _ ⟨_,rfl⟩⟩
     ·rintro Γ ⟨br,rfl⟩;exact hn _ ⟨_,_,_,_,_,rfl⟩
    ·rintro Γ ⟨bM,bN,bO,bP,br,rfl⟩;exact hK _ ⟨_,_,_,_,_,rfl⟩
   ·rintro Γ ⟨bM,bN,bO,bP,br,rfl⟩;have G:Good W p (o.map (·.1)) C:=⟨⟨by omega,by omega⟩,hW,hP,by rw[p_,ho.len];omega,hC,by omega⟩;have t:=told6 (at_:=0) (k:=k) G (by omega) (by omega) λz=>nomatch z
    have no:dueS 0 W p (o.map (·.1)) C = "kin":=if_neg λh=>fg (by
     have:=v7.mp h (wT p) (by simp[thr]) ((o.map (·.1)).map D.int) (by simp[thr]);rw[v9,hp.len,p_,p_,ho.len] at this
     exact this)
    rw[no] at t;have lo:=last6 (p:=p) (ws:=W) (cs:=C) (k:=k) (o:=o) (Γ:=gY x0 c x2 f g o W p l k C [some (.val (.lst L)),cj,bM,bN,bO,bP,br]) rfl rfl rfl rfl (by rw[ho.len];omega);refine xj.mpr ⟨false,_,neE (fn1E lo t) rfl (by simp[dep]),?_⟩;exact⟨_,_,rfl,fin hc⟩
  ·rintro Γ ⟨c,x2,x3,x4,x5,x6,x7,x8,x9,dB,cj,bM,bN,bO,bP,br,hc,rfl⟩;refine hK _ ?_;unfold retS;rw[vh];refine Ei (ds:=[]) rfl rfl (made6 hc λc' aO=>⟨_,rfl,?_⟩);exact⟨_,_,rfl,hE _ _ ⟨_,rfl,rfl⟩⟩
 obtain⟨r,aZ,e,rfl⟩:=bp;exact⟨aZ,e⟩
end Own
structure PySem.W.Fast:Prop where(tw17883682668175816748 tw13069027797302882794 tw9201223628089867754 tw10846087428589429000 tw12557209277294438048 tw8507031795334505279 tw1380164395079106137 tw13067739145721105545 tw5279541864604438036 tw15455795695178008101 tw7535128816217497349 tw9273230373027134610 tw2308192869540409590 tw10139744224432378939 tw5204266248334494769 tw17087694792219513587 tw385699484421689568 tw12143630482734453290 tw2283348908358151446 tw1896989006326250359 tw12877642475244038673 tw4188994720475348408 tw5272157262044380018 tw16772344060667026062 tw7099484959159035035 tw7504513760838736234 tw10913889142562072994 tw10424730652256188380 tw10498927383840531668 tw7790423623759406976 tw16130986960297113383 tw12215103296023162143 tw13149314807253073235 tw4081252951087277899 tw10182329529974964503 tw5714094260521311173 tw9298004925452484994 tw11478636591196104598 tw17088257979239043614 tw5372912751589495031 tw6708412850405294607 tw14530809942075024342 tw16419450291419470400 tw3633990919657408054 tw6402047156463584550 tw3841694481218121506 tw6958618389356589551 tw3124465915285747789 tw9816867825379493844 tw8466130670265748040 tw9227816129848035663 tw18083162963065188581 tw9665897828233801576 tw5945790999752271716 tw7691363818091009255 tw1565389008695348324 tw6092784515675309129 tw9359477826022261394 tw520895675494309827 tw12046722844603008449 tw13527942067108134812 tw14620414222934145580 tw1860455003742334660 tw7100932927633990742 tw15512282759001059060 tw14408321910357397379 tw7298373823259518871 tw235248407253864855 tw11145311912789838949 tw9913569244867038571 tw6734977307601250387 tw16791018723197533248 tw13844256020392127927 tw15202027333069083755 tw3831644239234371793 tw6985521599500389005 tw6868567460672327508 tw12683599006039880502 tw1627634699070037579 tw6687237014633606567 tw2603546181612151604 tw7596214258406400892 tw8153476246665586839 tw7177221167535238849 tw12407347481022616774 tw12858130749949443118 tw13015708496367206499 tw3472373062493987082 tw4280333020813885665 tw12803706166120050972 tw8901015408235921233 tw11635699311392766957 tw9360387867275636440 tw4288311064906706146 tw13830747399189567321 tw2779659016697427916 tw11199164118523749791 tw9876153298135072411 tw4239732008463814727 tw13577605988564936098 tw17111915329316505800 tw9732579208543970353 tw16022298950031655240 tw4626098679124897540 tw580130656334910918 tw7544494377640962613 tw14203639671614731658 tw17090632507365271320 tw2149954155449957650 tw10659913936948260502 tw3482055333484566779 tw16488792382313128907 tw14723358195443610246 tw7864633342728779650 tw9031375405483446486 tw5071765259262217487 tw9008632930758696203 tw12348889931990086342 tw15345696503739788690 tw6700279876308625979 tw12719409038923995197 tw9626480974437289391 tw18252045084256597335 tw6446848459005010686 tw2701662422361979214 tw5091193969301797464 tw16258372253001827386 tw4662726663984615189 tw1477349493227054627 tw15676868118797856870 tw3340907201619630928 tw2646948199949081471 tw9259121954327878217 tw10795049955610975938 tw3775683057989769381 tw16885760478785687779 tw2127265400189284032 tw12876575331686437878 tw11229881139483806649 tw14223499126905512523 tw3994883340333281888 tw10735349706496023927 tw111325872039284215 tw7381239474752318041 tw14585008789084377756 tw4609812246497399319 tw13801096350152170967 tw14039501501161322789 tw16950223238036640006 tw11430931893635982632 tw16874662368741784969 tw1454435703575680381 tw6229220460017095389 tw15780200233953029884 tw10509681436887806550 tw8840103874936683971 tw2849996698169701480 tw989408445872211301 tw7163349555989567575 tw17503750668157594706 tw3988760264712508999 tw11982670317591846198 tw685349324891477581 tw4776065356009082896 tw7070927268076512111 tw12915950959618917154 tw11238359607957452042 tw15075214948932429186 tw1787315086908541312 tw7816123470510470674 tw7078469700599925951 tw11305415192838710587 tw9372818585048834244 tw18201533706547098417 tw14019340764129580260 tw368358801923300196 tw12518517015518883389 tw4032963242339529702 tw10008716625799930711 tw9803378870858209837 tw7607216865289649239 tw12624216655200758919 tw3463394130518256301 tw17631745505624925904 tw14584574746005314335 tw1038928154526289077 tw11885309459650048207 tw8509708964515786235 tw6822971193615932753 tw17036278712843903168 tw13752065189060514030 tw1202961322371859328 tw8066538141256928100 tw8532234526054491125 tw8220622511677934110 tw15261124967674182804 tw11782724167395755028 tw6358202857232286375 tw3589732198884461401 tw16161306468865131120 tw7562941694324993882 tw13027620409307034792 tw15482191828858834750 tw1126568544651969550 tw7833429010317528509 tw8902997899469230521 tw6691798698939944596 tw2377991141809212968 tw2471092553258403071 tw12868513224631785865 tw5484248231607877513 tw14435388780446696457 tw2683396258553259681 tw16091705866585884027 tw11221315733162883680 tw18027854116856088542 tw10719513256925598727 tw2669693746736326769 tw4961528396774502559 tw9402410251387103210 tw16136779430993463711 tw2099662659849408424 tw6513111565571543232 tw3899707887027090975 tw1979759697669657230 tw4672059004831278122 tw13853507758730252648 tw17297446434468891614 tw11437546497977569597 tw18344774508791946569 tw3770103364241530298 tw16092062697636478157 tw7509838606923485199 tw2207931370209977663 tw13584447305666333427 tw4756993646445214830 tw6847857255809188465 tw3042385077901000526 tw6310860144784904763 tw4581119187546712395 tw3683103443908084448 tw9987014201119339035 tw15246246822698827384 tw4597777859345109251 tw1654107321052167759 tw8038605093360914326 tw5832776739901798897 tw17850897917665275663 tw5856827187332929512 tw3231694086333639464 tw18246607624376662554 tw16029479216508346164 tw11563544379852119130 tw16286354454594034322 tw3303914936899234242 tw3200473011189660378 tw6447166861111414939 tw12787471647488414207 tw16381792653820105034 tw4851582330264632681 tw6670138374758737731 tw2925441903038996195 tw10579277934065721499 tw5493776896367039254 tw16475976466275179779 tw3376311370037313609 tw4601874972855392122 tw7310657813290969294 tw14402693788688294190 tw2712508667800178334 tw15537541878360897550 tw14116325483534607123 tw11666734562218429219 tw7774213184471980776 tw13258995258412590287 tw10921727608029767701 tw17639585643400321704 tw3624941724733541517 tw6635584501043168905 tw5596861274662286693 tw17981561960244660852 tw11832925177758533662 tw14480927150480565959 tw8174485081691768027 tw17837545723532926434 tw10667836602402280547 tw8177197934059164201 tw11836624429831785305 tw16996566248827341581 tw6335236692675618135 tw12585919529007056236 tw2360580569469789090 tw13943618077151881745 tw10853068612012628236 tw15224779442818277608 tw15034027280651935253 tw12480136596949171964 tw7698157804691597428 tw6421415720800536168 tw3288216317750720876 tw10500863274342256601 tw10139039412824389003 tw18316372357418470118 tw17758751346356025910 tw18034040755334201586 tw7302242657241407439 tw8137413955493475925 tw1018601458050492381 tw11321787116170718514 tw6256119862491037368 tw16486973305319208539 tw257727907466877855 tw12820289954972004062 tw8761223808258980236 tw441813495931876790 tw6257279503411780868 tw8571446798560207036 tw12867897063224704173 tw9767511762305937349 tw17403204969209858270 tw6710799716308195242 tw18236162587435642477 tw12760614371873095534 tw13074617553093356628 tw9864592603394335773 tw8170884114155986371 tw8805818273265107188 tw14913369985718418079 tw2766888890828690335 tw9793862369116124098 tw439108392969353994 tw13340029197210688353 tw12186970913577615778 tw14600578568997487863 tw1603202621170847445 tw18332652958286647167 tw10589065807249683577 tw265826292703888496 tw6538023056822085032 tw10191036149206335932 tw13227531853044532102 tw4981624715901846422 tw450093795994143054 tw14146818466946213116 tw17973434340462529306 tw14338901292848203938 tw1100417830339189742 tw8658794850945597384 tw2678901643250236458 tw16914977472544862951 tw7031610921681858774 tw2045355771957292549 tw1362267071493945613 tw2708234389767955288 tw16017695895316612592 tw8969181559488659871 tw9468357726754813453 tw16749476566744723727 tw9836561545858160425 tw8700608583077457419 tw4892565506453527075 tw13220940618703981602 tw15162621086445550624 tw14884283561614036967 tw11436254147543919414 tw12317751700782623512 tw11266638252427486689 tw16262333407039563523 tw2740793612067481279 tw1962016265598478376 tw5400294463546800452 tw4741605156866683733 tw8047549097244899614 tw18049268431647745749 tw8099989245320361257 tw17422840237094271550 tw6903445469730393371 tw881009198543587425 tw8522812430136326550 tw9853823851827987455 tw11387396997992345767 tw18222861880870534287 tw11005786525601947176 tw2114716125520760030 tw4733162932242277053 tw1082190639873950349 tw5144493653270188783 tw11961188617194976894 tw5655116779636347578 tw16145632399168199155 tw15827733925272154491 tw12175689563409972824 tw16018906637346165598 tw157200711581016502 tw592880460760616391 tw13121267574629262660 tw1497393631536328069 tw2772080497337782094 tw7952844804576383601 tw15528089070169973487 tw17563292933572334864 tw3844611799075377151 tw1970225033745400810 tw17145389474266367151 tw3467377784454761951 tw13939450886181149417 tw14970911248352374673 tw9865956722860017632 tw16032352700736611926 tw6303947145149937281 tw2473298256781366999 tw6793074923650659306 tw8067514004151818697 tw17181305407555087691 tw14004859254392703256 tw4012706281269704910 tw4185077276122746420 tw9257266136575664551 tw12586060109818414442 tw12133401326702723473 tw2839049762083177826 tw1229781238585826981:True)
open PySem PySem.W PyProof.Rows
set_option maxRecDepth 100000 in
set_option maxHeartbeats 0 in
theorem PySem.Challenge.cw_roofpost_k06_unlike_fields_refused_holds : PySem.Challenge.rw_roofpost_k06_unlike_fields_refused.Holds := by
 w_on;(refine holds_law wSaid λtY=>?_);k_head;(case hw=>w_witness2)
 k_fill
 refine Own.walk (l:=PySem.Challenge.rw_roofpost_k06_unlike_fields_refused) Own.law_true rfl rfl ?W ?NT (λw h uM=>PySem.W.km_in_of uM) ?F
 (case W=>exact SV.mp (by kernel_rfl))
 (case NT=>intro p;kernel_rfl)
 case F =>
  intro w mg fa h KX G iw;refine' Own.all_mk iw (Own.dn KX G ?_ ?_ ?_ ?_) (Own.dn KX G ?_ ?_ ?_ ?_) (Own.dn KX G ?_ ?_ ?_ ?_) (Own.dn KX G ?_ ?_ ?_ ?_) (Own.dn KX G ?_ ?_ ?_ ?_) (Own.dn KX G ?_ ?_ ?_ ?_) (Own.dn KX G ?_ ?_ ?_ ?_) (Own.dn KX G ?_ ?_ ?_ ?_) (Own.dn KX G ?_ ?_ ?_ ?_) (Own.dn KX G ?_ ?_ ?_ ?_) (Own.dn KX G ?_ ?_ ?_ ?_) (Own.dn KX G ?_ ?_ ?_ ?_) (Own.dn KX G ?_ ?_ ?_ ?_) (Own.dn KX G ?_ ?_ ?_ ?_) (Own.dn KX G ?_ ?_ ?_ ?_) (Own.dn KX G ?_ ?_ ?_ ?_) (Own.dn KX G ?_ ?_ ?_ ?_) (Own.dn KX G ?_ ?_ ?_ ?_) (Own.dn KX G ?_ ?_ ?_ ?_) (Own.dn KX G ?_ ?_ ?_ ?_) (Own.dn KX G ?_ ?_ ?_ ?_) (Own.dn KX G ?_ ?_ ?_ ?_) (Own.dn KX G ?_ ?_ ?_ ?_) (Own.dn KX G ?_ ?_ ?_ ?_) (Own.dn KX G ?_ ?_ ?_ ?_) (Own.dn KX G ?_ ?_ ?_ ?_) (Own.dn KX G ?_ ?_ ?_ ?_) (Own.dn KX G ?_ ?_ ?_ ?_) (Own.dn KX G ?_ ?_ ?_ ?_) (Own.dn KX G ?_ ?_ ?_ ?_) (Own.dn KX G ?_ ?_ ?_ ?_) (Own.dn KX G ?_ ?_ ?_ ?_) (Own.dn KX G ?_ ?_ ?_ ?_) (RQ KX G ?_) (RQ KX G ?_) (RQ KX G ?_) (RQ KX G ?_) (RQ KX G ?_) (RQ KX G ?_) (RQ KX G ?_) (RQ KX G ?_) (RQ KX G ?_) (RQ KX G ?_) (RQ KX G ?_) (RQ KX G ?_) (RQ KX G ?_) (RQ KX G ?_) (DL.Jz KX G ?X1) (Own.fi ?_ ?_ ?_ ?_ ?_) (DL.LF ?X2) ?T0
  (case T0=>kernel_rfl)
  any_goals k_is
  all_goals kernel_rfl
