import PyProof.Rows.All
import Wide.All
import OpenK.AllK
import Wide.FinOn
import Lean
import PyProof.EqAt
import PyProof.EqKinds
import PyProof.TupleCall
import KE.KNest
import PyProof.NeKinds
import PyProof.IsiSeqPairs
import PyProof.IsiNone
import KE.KSortTup
import KE.KRevSl
import PyProof.Rows.SortRuns
import KE.KLam
import PySem.Challenge.RW_roofpost_k65_whole_no_fewer_needless
set_option Elab.async false
set_option linter.all false
open Array (getD getD_eq_getD_getElem? getElem?_eq_none getElem?_extract getElem?_toList length_toList mem_iff_getElem? perm_iff_toList_perm size_extract toList toList_append toList_push)
open Bool (and_eq_true false_eq_true not_eq_false' not_eq_true')
open Classical (byContradiction)
open False (elim)
open Int (emod_lt_of_pos emod_nonneg toNat_natCast)
open List (all_cons all_eq_true any_cons append_assoc append_nil append_of_mem drop_drop drop_eq_getElem_cons drop_eq_nil_of_le drop_length drop_of_length_le drop_succ_cons drop_take drop_zero ext_getElem filterMap_cons filter_cons filter_eq_self find?_cons flatMap_cons foldl_cons forIn_cons forIn_nil getD_eq_getElem?_getD getElem?_append_left getElem?_append_right getElem?_cons_succ getElem?_drop getElem?_eq_getElem getElem?_map getElem?_set_ne getElem_drop getElem_map getElem_mem getElem_range getLast_cons length length_append length_cons length_drop length_eq_zero_iff length_map length_range length_replicate length_reverse length_set length_take map map_append map_congr_left map_cons map_drop map_map map_reverse map_take mem_append mem_append_left mem_append_right mem_cons mem_cons_of_mem mem_cons_self mem_filter mem_flatMap mem_iff_getElem mem_map mem_of_getElem? mem_of_mem_drop mem_of_mem_take mem_range mem_reverse mem_singleton nil_append nodup_cons not_mem_nil of_mem_zip pairwise_append pairwise_cons pairwise_iff_getElem pairwise_map perm_append_comm perm_middle range replicate reverse_cons set_set size_toArray sum sum_append sum_cons take_add_one take_append take_append_drop take_length take_of_length_le take_sublist take_take take_zero)
open List.Pairwise (imp_of_mem of_map)
open List.Perm (append_left append_right)
open Nat (add_sub_of_le le_add_right le_of_lt le_refl le_succ le_trans lt_irrefl lt_of_lt_of_le lt_or_ge lt_succ_of_lt lt_succ_self lt_trans min_eq_left mod_lt ne_of_gt ne_of_lt not_lt not_lt_zero succ_pos zero_add zero_le)
open Option (getD_none map_eq_some_iff map_some)
open PySem.Around (under_plainId)
open PySem.Builtin.Frozenset (newClass slot0 updateFrom)
open PySem.Builtin.List (listExtendWith listLengthHint listSameRef listTooLong listTouch)
open PySem.Builtin.Range (rangeSize)
open PySem.Builtin.Slice (sliceAdjust sliceApplied slicePlaces)
open PySem.Builtin.SmallTypes (nextOf ownedTupleIsFree stopIteration)
open PySem.Builtin.Tuple (tupleExact)
open PySem.Data (fields seq)
open PySem.F (args_tuple_add_2 called_set entry_tuple_add slot_tuple_add)
open PySem.Heap (get?_push_of_some get?_push_size get?_update_other get?_update_self lt_size size_push size_update)
open PySem.Obj (data_mapFields mapSeq putSet)
open PySem.Paired (snoc)
open PySem.PassesOwn (never)
open PySem.SeqAt (ne_of_list_tuple)
open PySem.Str (ofString)
open PySem.Value (type)
open PySem.W (codeIn findIn fnOf instObj isFn keepIn kla_fn methodObj mg_none_of mg_of noTabs nsIn specialIn tabIn)
set_option maxRecDepth 100000
noncomputable section
namespace L2
open PySem PySem.Spec PyProof.Rows
abbrev Key:=Sum Int Str
noncomputable def keyIs:Key->Value->Bool
 | .inl k,v=>Value.isInt k v
 | .inr x,v=>Value.isStrOf x v
noncomputable def keyH (w:World):Key->Int
 | .inl k=>hashInt k
 | .inr x=>hashStr w x
theorem aG':∀ {k:Key}{v:Value},keyIs k v=true->(∃ i t,k=Sum.inl i/\v=Value.int i t)\/(∃ x t,k=Sum.inr x/\v=Value.str x t)
 | .inl i,v,h=>by
  obtain ⟨t,e⟩:=Value.isInt_shape (k:=i) (v:=v) h
  exact .inl ⟨i,t,rfl,e⟩
 | .inr x,v,h=>by
  obtain ⟨t,e⟩:=Value.isStrOf_shape (x:=x) (v:=v) h
  exact .inr ⟨x,t,rfl,e⟩
theorem kf' (i:Int) (t:Tok):keyIs (.inl i) (.int i t)=true:=by simp [keyIs,Value.isInt]
theorem kg' (x:Str) (t:Tok):keyIs (.inr x) (.str x t)=true:=by simp [keyIs,Value.isStrOf]
theorem o3' (a b:Int):decide ((Sum.inl a:Key)=Sum.inl b)=(a == b):=by
 by_cases e:a=b
 ·subst e;simp
 ·have h:¬ (Sum.inl a:Key)=Sum.inl b:=λq=>e (Sum.inl.inj q)
  rw [decide_eq_false h]
  exact (beq_eq_false_iff_ne.mpr e).symm
theorem o4' (a b:Str):decide ((Sum.inr a:Key)=Sum.inr b)=decide (a=b):=by
 by_cases e:a=b
 ·subst e;simp
 ·have h:¬ (Sum.inr a:Key)=Sum.inr b:=λq=>e (Sum.inr.inj q)
  rw [decide_eq_false h,decide_eq_false e]
theorem o5' (a:Int) (b:Str):decide ((Sum.inl a:Key)=Sum.inr b)=false:=decide_eq_false (λq=>nomatch q)
theorem o6' (a:Str) (b:Int):decide ((Sum.inr a:Key)=Sum.inl b)=false:=decide_eq_false (λq=>nomatch q)
noncomputable def mixKind (prog:Program) (w:World):PySem.KeyKind prog w Key where
 is:=keyIs
 hash:=keyH w
 inj:=λv a b ha hb=>by
  rcases aG' ha with ⟨i,t,rfl,rfl⟩ | ⟨x,t,rfl,rfl⟩
  ·rcases aG' hb with ⟨j,u,rfl,e⟩ | ⟨y,u,rfl,e⟩
   ·injection e with e1 _;rw [e1]
   ·exact nomatch e
  ·rcases aG' hb with ⟨j,u,rfl,e⟩ | ⟨y,u,rfl,e⟩
   ·exact nomatch e
   ·injection e with e1 _;rw [e1]
 byValue:=λk v h=>by
  rcases aG' h with ⟨i,t,rfl,rfl⟩ | ⟨x,t,rfl,rfl⟩<;>rfl
 pyHash:=λhv h=>by
  rcases aG' hv with ⟨i,t,rfl,rfl⟩ | ⟨x,t,rfl,rfl⟩
  ·exact wpAny_pyHash_int h
  ·exact wpAny_pyHash_str h
 eqBool:=λhu hv h=>by
  rcases aG' hu with ⟨i,t,rfl,rfl⟩ | ⟨x,t,rfl,rfl⟩
  ·rcases aG' hv with ⟨j,u,rfl,rfl⟩ | ⟨y,u,rfl,rfl⟩
   ·rw [o3'] at h;exact wpAny_eqBool_int h
   ·rw [o5'] at h;exact SeqAt.EqAt.int_str i t y u _ _ _ _ h
  ·rcases aG' hv with ⟨j,u,rfl,rfl⟩ | ⟨y,u,rfl,rfl⟩
   ·rw [o6'] at h;exact SeqAt.EqAt.str_int x t j u _ _ _ _ h
   ·rw [o4'] at h;exact wpAny_eqBool_str h
 «strs»:=λk x t v h=>by
  rcases aG' h with ⟨i,u,rfl,e⟩ | ⟨y,u,rfl,e⟩
  ·exact nomatch e
  ·injection e with e1 _
   subst e1
   cases v<;>rfl
theorem im' (prog:Program) (w:World) (i:Int) (t:Tok):(mixKind prog w).is (.inl i) (.int i t)=true:=kf' i t
theorem io' (prog:Program) (w:World) (x:Str) (t:Tok):(mixKind prog w).is (.inr x) (.str x t)=true:=kg' x t
inductive V where
 | non | bl (b:Bool) | int (i:Int) | str (x:Str) | byt (b:Array UInt8) | flt (b:UInt64) | ref (a:Addr) | ty (n:String)
 deriving DecidableEq
def RelV:V->Value->Prop
 | .non,u=>u=Value.none
 | .bl b,u=>u=Value.bool b
 | .int i,u=>∃ t,u=Value.int i t
 | .str x,u=>∃ t,u=Value.str x t
 | .byt b,u=>∃ t,u=Value.bytes b t
 | .flt b,u=>∃ t,u=Value.float b t
 | .ref a,u=>u=Value.ref a
 | .ty n,u=>u=type n
abbrev Vals:List V->List Value->Prop:=Paired RelV
theorem Vals.length {xs:List V}{us:List Value} (r:Vals xs us):xs.length=us.length:=Paired.length r
theorem Vals.get:∀ {xs:List V}{us:List Value}{i:Nat}{x:V},Vals xs us->xs[i]?=some x->∃ u,us[i]?=some u/\RelV x u
 | _,_,_,_,.nil,e=>by simp at e
 | _,_,0,_,.cons r _,e=>by simp at e;subst e;exact ⟨_,rfl,r⟩
 | _,_,i+1,x,.cons _ t,e=>by
  obtain ⟨u,h1,h2⟩:=Vals.get (i:=i) (x:=x) t (by simpa using e)
  exact ⟨u,by simpa using h1,h2⟩
theorem Vals.set {x:V}{u:Value} (r:RelV x u):∀ {xs:List V}{us:List Value} (i:Nat),Vals xs us->Vals (xs.set i x) (us.set i u)
 | _,_,_,.nil=>.nil
 | _,_,0,.cons _ t=>.cons r t
 | _,_,i+1,.cons q t=>.cons q (Vals.set r i t)
theorem Vals.append:∀ {xs ys:List V}{us ws:List Value},Vals xs us->Vals ys ws->Vals (xs++ys) (us++ws)
 | _,_,_,_,.nil,s=>s
 | _,_,_,_,.cons r t,s=>.cons r (Vals.append t s)
theorem Vals.take:∀ {xs:List V}{us:List Value} (n:Nat),Vals xs us->Vals (xs.take n) (us.take n)
 | _,_,0,_=>.nil
 | _,_,_+1,.nil=>.nil
 | _,_,n+1,.cons r t=>.cons r (Vals.take n t)
theorem Vals.drop:∀ {xs:List V}{us:List Value} (n:Nat),Vals xs us->Vals (xs.drop n) (us.drop n)
 | _,_,0,r=>r
 | _,_,_+1,.nil=>.nil
 | _,_,n+1,.cons _ t=>Vals.drop n t
def RelO:Option V->Option Value->Prop
 | some v,some u=>RelV v u
 | none,none=>True
 | _,_=>False
def KV {κ:Type}:List (κ×V)->List (κ×Value)->Prop:=Paired λ(p:κ×V) (q:κ×Value)=>p.1=q.1/\RelV p.2 q.2
noncomputable def kV:Key->V
 | .inl i=>.int i
 | .inr x=>.str x
inductive HO where
 | lst (xs:List V)
 | tup (xs:List V)
 | dK (ah:List (Key×V)) | dT (ah:List (List Key×V))
 | set (S:Int->Bool) (n:Nat)
 | ins (C dx:Addr) (fs:List (Str×V))
 | own (x:Addr)
 | xd (fs:List (Str×V))
 | met (f x:Addr)
 | rng (lo hi:Int)
 | frz (o:Obj) (u:HO)
 | tbl (q:Str)
 | ext (φ:Heap->Prop)
abbrev Hp:=Addr->Option HO
noncomputable def upd (H:Hp) (a:Addr) (o:HO):Hp:=λb=>if b=a then some o else H b
theorem ag' {H:Hp}{a:Addr}{o:HO}:upd H a o a=some o:=by unfold upd;rw [if_pos rfl]
theorem ae' {H:Hp}{a b:Addr}{o:HO} (h:b≠a):upd H a o b=H b:=by unfold upd;rw [if_neg h]
theorem qn' {H:Hp}{a b:Addr}{o u:HO} (h:H a=some o) (h':H b=some u) (d:o≠u):a≠b:=by
 intro e;subst e;rw [h] at h';exact d (Option.some.inj h')
theorem aD' {H:Hp}{a b:Addr}{o:HO} (h:H a=some o) (h':H b=none):a≠b:=by
 intro e;subst e;rw [h] at h';cases h'
section
variable (P:Program) (w:World)
def ObjOk (H:Hp) (h:Heap) (a:Addr):HO->Prop
 | .lst xs=>xs.length<=sizeLine/\∃ (af:List Value) (n:Nat),Vals xs af/\h.get? a=some { cls:=.type "list", data:=.seq af.toArray n }
 | .tup xs=>xs.length<=sizeLine/\∃ af:List Value,Vals xs af/\IsTup h a af.toArray
 | .dK ah=>ah.length<=sizeLine/\(a == sysModules)=false/\∃ vs,KV ah vs/\h.DictOf (mixKind P w) a vs
 | .dT ah=>ah.length<=sizeLine/\(a == sysModules)=false/\∃ xs:List (List Key×Addr×Value),
   Paired (λ(p:List Key×V) (q:List Key×Addr×Value)=>p.1=q.1/\H q.2.1=some (.tup (p.1.map kV))/\RelV p.2 q.2.2) ah xs ∧
   ∃ o es ep,h.get? a=some o/\o.ExactDict/\o.data=.dict es ep/\es.toList=xs.map (entryOfKey (tupleKind (mixKind P w)))/\(xs.map (·.1)).Nodup
 | .set S n=>h.SetOf (intKind P w) a S n
 | .ins C dx fs=>H dx=some (.own a)/\fs.length<=1000/\dx≠a/\h.get? a=some (instObj C dx) ∧
   ∃ mA,h.Ns1 dx mA/\(∀ f,RelO (fs.lookup f) (mA f))/\PySem.Within mA (fs.map (·.1))
 | .own _=>∃ o,h.get? a=some o
 | .xd fs=>∃ mA,h.Ns1 a mA/\∀ f,RelO (fs.lookup f) (mA f)
 | .rng lo hi=>∃ t u v,h.get? a=some { cls:=.type "range", data:=.fields #[.int lo t,.int hi u,.int 1 v] }
 | .frz o u=>h.get? a=some o/\ObjOk H h a u
 | .tbl q=>∃ ps:Array Value,h.get? a=some { cls:=.none,data:=.fields ps }/\TriplesOk ps.toList/\∀ pos cv,codeAmong pos ps.toList=some cv->∃ c oc vs t,cv=.ref c/\H c=some (.frz oc (.own a))/\oc.data=.fields vs/\vs[1]?=some (.str q t)
 | .met f x=>h.get? a=some (methodObj (.ref f) (.ref x))
 | .ext φ=>φ h/\(∃ o,h.get? a=some o)/\∀ h1 h2:Heap,φ h1->(∀ o,h1.get? a=some o->h2.get? a=some o)->φ h2
def HOk (H:Hp) (h:Heap):Prop:=∀ a o,H a=some o->ObjOk P w H h a o
end
section
variable {P:Program}{w:World}{H H':Hp}{h h':Heap}{a:Addr}{o:HO}
theorem ObjOk.lt (x:ObjOk P w H h a o):a < h.objs.size:=by
 cases o with
 | lst xs=>obtain ⟨_,_,_,_,e⟩:=x;exact lt_size e
 | tup xs=>obtain ⟨_,_,_,p⟩:=x;exact p.lt
 | dK ah=>obtain ⟨_,_,_,_,o,_,_,e,_⟩:=x;exact lt_size e
 | dT ah=>obtain ⟨_,_,_,_,o,_,_,e,_⟩:=x;exact lt_size e
 | set S n=>obtain ⟨o,_,_,_,e,_⟩:=x;exact lt_size e
 | ins C dx fs=>obtain ⟨_,_,_,e,_⟩:=x;exact lt_size e
 | own y=>obtain ⟨_,e⟩:=x;exact lt_size e
 | xd fs=>obtain ⟨_,⟨_,_,_,e,_⟩,_⟩:=x;exact lt_size e
 | rng lo hi=>obtain ⟨_,_,_,e⟩:=x;exact lt_size e
 | frz ob u=>obtain ⟨e,_⟩:=x;exact lt_size e
 | tbl q=>obtain ⟨_,e,_⟩:=x;exact lt_size e
 | met f y=>exact lt_size (show h.get? a=some _ from x)
 | ext φ=>obtain ⟨_,⟨_,e⟩,_⟩:=x;exact lt_size e
theorem Paired.mapP {α β:Type}{F G:α->β->Prop}:∀ {l₁:List α}{l₂:List β},Paired F l₁ l₂->(∀ a b,F a b->G a b)->Paired G l₁ l₂
 | _,_,.nil,_=>.nil
 | _,_,.cons r t,f=>.cons (f _ _ r) (Paired.mapP t f)
theorem ObjOk.stay (x:ObjOk P w H h a o) (k:∀ b u,(b=a\/H b=some (.own a))->h.get? b=some u->h'.get? b=some u)
  (ho:∀ b,H b=some (.own a)->H' b=some (.own a)) (ht:∀ b xs,H b=some (.tup xs)->H' b=some (.tup xs)) (hz:∀ b o u,H b=some (.frz o u)->H' b=some (.frz o u)):ObjOk P w H' h' a o:=by
 induction o with
 | lst xs=>obtain ⟨z,af,n,r,e⟩:=x;exact ⟨z,af,n,r,k _ _ (.inl rfl) e⟩
 | tup xs=>obtain ⟨z,af,r,ob,e,c⟩:=x;exact ⟨z,af,r,ob,k _ _ (.inl rfl) e,c⟩
 | dK ah=>obtain ⟨z,y,vs,r,ob,es,ep,e,c⟩:=x;exact ⟨z,y,vs,r,ob,es,ep,k _ _ (.inl rfl) e,c⟩
 | dT ah =>
  obtain ⟨z,y,xs,r,ob,es,ep,e,c⟩:=x
  exact ⟨z,y,xs,Paired.mapP r λp q z=>⟨z.1,ht _ _ z.2.1,z.2.2⟩,ob,es,ep,k _ _ (.inl rfl) e,c⟩
 | set S n=>obtain ⟨ob,es,ep,t,e,c⟩:=x;exact ⟨ob,es,ep,t,k _ _ (.inl rfl) e,c⟩
 | ins C dx fs =>
  obtain ⟨d,z,ne,e,mA,⟨od,es,ep,e2,c⟩,r⟩:=x
  exact ⟨ho _ d,z,ne,k _ _ (.inl rfl) e,mA,⟨od,es,ep,k _ _ (.inr d) e2,c⟩,r⟩
 | own y=>obtain ⟨ob,e⟩:=x;exact ⟨ob,k _ _ (.inl rfl) e⟩
 | xd fs=>obtain ⟨mA,⟨od,es,ep,e,c⟩,r⟩:=x;exact ⟨mA,⟨od,es,ep,k _ _ (.inl rfl) e,c⟩,r⟩
 | rng lo hi=>obtain ⟨t,u,v,e⟩:=x;exact ⟨t,u,v,k _ _ (.inl rfl) e⟩
 | frz ob u ih=>obtain ⟨e,q⟩:=x;exact ⟨k _ _ (.inl rfl) e,ih q⟩
 | tbl q =>
  obtain ⟨ps,e,t,c⟩:=x
  refine ⟨ps,k _ _ (.inl rfl) e,t,λpos cv h=>?_⟩
  obtain ⟨c,oc,vs,t,e1,e2,e3⟩:=c pos cv h
  exact ⟨c,oc,vs,t,e1,hz _ _ _ e2,e3⟩
 | met f y =>
  have e:h.get? a=some (methodObj (.ref f) (.ref y)):=x
  show h'.get? a=some (methodObj (.ref f) (.ref y))
  exact k a _ (.inl rfl) e
 | ext φ=>obtain ⟨p,⟨o,e⟩,st⟩:=x;exact ⟨st _ _ p λo q=>k _ _ (.inl rfl) q,⟨o,k _ _ (.inl rfl) e⟩,st⟩
theorem HOk.lt (x:HOk P w H h) (e:H a=some o):a < h.objs.size:=(x a o e).lt
theorem HOk.fresh (x:HOk P w H h) (e:h.objs.size<=a):H a=none:=by
 cases q:H a with
 | none=>rfl
 | some u=>exact absurd (lt_of_lt_of_le (x.lt q) e) (lt_irrefl _)
theorem HOk.kept (x:HOk P w H h) (k:∀ b u,h.get? b=some u->h'.get? b=some u):HOk P w H h':=λa o e =>
 (x a o e).stay (λb u _ q=>k b u q) (λ_ q=>q) (λ_ _ q=>q) λ_ _ _ q=>q
theorem HOk.laid (x:HOk P w H h) (k:∀ b u,h.get? b=some u->h'.get? b=some u) (hp:h.objs.size<=a) (new:ObjOk P w (upd H a o) h' a o):HOk P w (upd H a o) h':=λb u e=>by
 have hn:=x.fresh hp
 by_cases hb:b=a
 ·subst hb;rw [ag'] at e;cases e;exact new
 ·rw [ae' hb] at e
  exact (x b u e).stay (λc v _ q=>k c v q) (λc q=>by rw [ae' (aD' q hn)];exact q) (λc xs q=>by rw [ae' (aD' q hn)];exact q) λc o u q=>by rw [ae' (aD' q hn)];exact q
end
def Rd (H:Hp) (a:Addr) (u:HO):Prop:=H a=some u\/∃ o,H a=some (.frz o u)
theorem Rd.ok {P:Program}{w:World}{H:Hp}{h:Heap}{a:Addr}{u:HO} (r:Rd H a u) (x:HOk P w H h):ObjOk P w H h a u:=by
 rcases r with r | ⟨o,r⟩
 ·exact x a u r
 ·obtain ⟨_,q⟩:=x a _ r
  exact q
def Mut:Option HO->Prop
 | some (.lst _)=>True
 | some (.dK _)=>True
 | some (.dT _)=>True
 | some (.set _ _)=>True
 | some (.ins _ _ _)=>True
 | some (.ext _)=>True
 | _=>False
section
variable {P:Program}{w:World}{H:Hp}{h h':Heap}{x e:Addr}{o':HO}
theorem HOk.write (ok:HOk P w H h) (mu:Mut (H x)) (he:e=x\/H e=some (.own x)) (k:∀ b u,b≠e->h.get? b=some u->h'.get? b=some u) (fD:∃ u,h'.get? e=some u)
  (new:ObjOk P w (upd H x o') h' x o'):HOk P w (upd H x o') h':=λb u q=>by
 have jb:∀ c y,H c=some (.own y)->c≠x:=λc y r z=>by subst z;rw [r] at mu;exact mu
 have mG:∀ c xs,H c=some (.tup xs)->c≠x:=λc xs r z=>by subst z;rw [r] at mu;exact mu
 by_cases hb:b=x
 ·subst hb;rw [ag'] at q;cases q;exact new
 ·rw [ae' hb] at q
  by_cases hbe:b=e
  ·have q':H b=some (.own x):=by
    rcases he with z | z
    ·exact absurd (hbe.trans z) hb
    ·rw [hbe];exact z
   rw [q] at q';cases q'
   obtain ⟨v,hv⟩:=fD
   exact ⟨v,by rw [hbe];exact hv⟩
  ·refine (ok b u q).stay (λc v hc r=>k c v ?_ r) (λc r=>by rw [ae' (jb c b r)];exact r) (λc xs r=>by rw [ae' (mG c xs r)];exact r) λc o u r=>by rw [ae' (λz=>by subst z;rw [r] at mu;exact mu)];exact r
   rcases hc with rfl | hc
   ·exact hbe
   ·rintro rfl
    rcases he with z | z
    ·exact jb c b hc z
    ·rw [hc] at z;cases z;exact hb rfl
end
structure Un (fs ex:List Addr) (H H':Hp) (h h':Heap):Prop where
 keep:∀ b o,h.get? b=some o->H b=none->b∉fs->b∉ex->h'.get? b=some o
 slot:∀ b o,h.get? b=some o->H b=none->b∈fs->b∉ex->∃ sl,h'.get? b=some { o with slots:=sl }
 free:∀ b o,h.get? b=some o->H b=none->b∉ex->H' b=none
 there:∀ b o,h.get? b=some o->b∉ex->∃ o',h'.get? b=some o'
 tups:∀ b xs,H b=some (.tup xs)->H' b=some (.tup xs)
 frzs:∀ b o u,H b=some (.frz o u)->H' b=some (.frz o u)
 tbls:∀ b q,H b=some (.tbl q)->H' b=some (.tbl q)
section
variable {fs qt ex jH:List Addr}{H H1 H2:Hp}{h h1 h2 h':Heap}{a x e:Addr}{o:HO}
theorem Un.any (u:Un fs ex H H1 h h1){b:Addr}{ob:Obj} (q:h.get? b=some ob) (n:H b=none) (hx:b∉ex):∃ sl,h1.get? b=some { ob with slots:=sl }:=by
 by_cases hb:b∈fs
 ·exact u.slot b ob q n hb hx
 ·exact ⟨ob.slots,u.keep b ob q n hb hx⟩
theorem Un.kept (k:∀ b u,h.get? b=some u->h'.get? b=some u):Un fs ex H H h h' :=
 ⟨λb ob q _ _ _=>k b ob q,λb ob q _ _ _=>⟨ob.slots,k b ob q⟩,λ_ _ _ n _=>n,λb ob q _=>⟨ob,k b ob q⟩,λ_ _ q=>q,λ_ _ _ q=>q,λ_ _ q=>q⟩
theorem Un.refl:Un fs ex H H h h:=Un.kept λ_ _ q=>q
theorem Un.laid (k:∀ b u,h.get? b=some u->h'.get? b=some u) (hp:h.objs.size<=a) (hn:H a=none):Un fs ex H (upd H a o) h h' where
 keep:=λb u q _ _ _=>k b u q
 slot:=λb u q _ _ _=>⟨u.slots,k b u q⟩
 free:=λb u q n _=>by rw [ae' (ne_of_lt (lt_of_lt_of_le (lt_size q) hp))];exact n
 there:=λb u q _=>⟨u,k b u q⟩
 tups:=λb xs q=>by rw [ae' (aD' q hn)];exact q
 frzs:=λb u xs q=>by rw [ae' (aD' q hn)];exact q
 tbls:=λb xs q=>by rw [ae' (aD' q hn)];exact q
theorem Un.write (mu:Mut (H x)) (he:e=x\/H e=some (.own x)) (k:∀ b u,b≠e->h.get? b=some u->h'.get? b=some u) (fD:∃ u,h'.get? e=some u):Un fs ex H (upd H x o) h h':=by
 have hx:∀ b,H b=none->b≠x:=λb n z=>by subst z;rw [n] at mu;exact mu
 have hb:∀ b,H b=none->b≠e:=λb n z=>by
  subst z
  rcases he with r | r
  ·exact hx b n r
  ·rw [n] at r;cases r
 have hm:∀ b u,H b=some u->¬ Mut (some u)->b≠x:=λb u q nm z=>by subst z;rw [q] at mu;exact nm mu
 refine ⟨λb u q n _ _=>k b u (hb b n) q,λb u q n _ _=>⟨u.slots,k b u (hb b n) q⟩,λb u q n _=>by rw [ae' (hx b n)];exact n,λb u q _=>?_,
  λb xs q=>by rw [ae' (hm b _ q λz=>z)];exact q,λb u xs q=>by rw [ae' (hm b _ q λz=>z)];exact q,λb xs q=>by rw [ae' (hm b _ q λz=>z)];exact q⟩
 by_cases hbe:b=e
 ·subst hbe;exact fD
 ·exact ⟨u,k b u hbe q⟩
end
noncomputable def trk (h:Heap) (H:Hp):List Addr:=(range h.objs.size).filter λa=>(H a).isSome
noncomputable def hidT (h:Heap) (H:Hp):Heap:=PySem.W.hideAll h (trk h H)
theorem kh' (h:Heap) (H:Hp):(hidT h H).objs.size=h.objs.size:=PySem.W.hideAll_size _ _
theorem l3' {h:Heap}{H:Hp}{b:Addr}{o:Obj} (e:h.get? b=some o) (n:H b=none):(hidT h H).get? b=some o :=
 PySem.W.hideAll_get _ e λhm=>by
  have q:(H b).isSome=true:=(mem_filter.mp hm).2
  rw [n] at q;simp at q
theorem nI' {h:Heap}{H:Hp}{b:Addr}{o:Obj} (e:(hidT h H).get? b=some o):h.get? b=some o/\H b=none:=by
 have e':h.get? b=some o:=PySem.W.of_hideAll (trk h H) e
 refine ⟨e',?_⟩
 cases q:H b with
 | none=>rfl
 | some x =>
  have hm:b∈trk h H:=mem_filter.mpr ⟨mem_range.mpr (lt_size e'),by simp [q]⟩
  have z:(hidT h H).get? b=none:=PySem.W.hideAll_none (trk h H) hm
  rw [z] at e;cases e
def TabsOk (K:PySem.W.Frag) (H:Hp):Prop:=∀ c P,tabIn K "few_of"=some (c,P)->H P=some (.tbl "few_of.<locals>.<lambda>")
structure Mod (K:PySem.W.Frag) (mg:Str->Option Value) (base:Heap):Prop where
 kin:K.In base
 glob:base.Ns mainGlobals mg
 blt:∃ mb,base.Ns builtinsNs mb/\∀ x:Str,x ≠ "__name__"->mb x=bootBuiltins x
 nolimit:base.NoLimit
 bm:∃ bm ob,mg "__builtins__"=some (.ref bm)/\bm≠builtinsNs/\base.get? bm=some ob/\ob.cls=.type "module"/\ob.dict=some builtinsNs/\ob.data=.plain
 cod:∀ c P,tabIn K "few_of"=some (c,P)->PySem.W.CodeHd base c P
structure Cx where
 prog:Program
 w:World
 K:PySem.W.Frag
 mg:Str->Option Value
 base:Heap
 A:Around
 N:List Str
 s₀:Shared
 H₀:Hp
 env:Env
 outer:List Env
 stack:List Env
 ex:List Addr
 fn:Str->Bool
 calm:Bool
 pn:List (Addr×Obj)
 xe:Value->Shared->Prop
noncomputable def frs (l:List Env):List Addr:=l.filterMap (·.frame)
noncomputable abbrev Cx.fs (X:Cx):List Addr:=frs X.outer
def Vis (sc:Scope) (x:Str):Prop:=sc.names.lookup x=some .local\/sc.names.lookup x=some .cell\/sc.names.lookup x=some .free
def Loc (sc:Scope) (x:Str):Prop:=sc.names.lookup x=some .local\/sc.names.lookup x=some .cell
noncomputable def visB (s:Scope) (x:Str):Bool:=match s.names.lookup x with|some .local=>true|some .cell=>true|some .free=>true|_=>false
noncomputable def locB (s:Scope) (x:Str):Bool:=match s.names.lookup x with|some .local=>true|some .cell=>true|_=>false
noncomputable def fnB (X:Cx) (x:Str):Bool:=X.fn x||match X.env.scope.names.lookup x with|some .local=>true|_=>false
theorem visI {s:Scope}{x:Str} (h:visB s x=true):Vis s x:=by
 unfold visB at h;unfold Vis;split at h<;>simp_all
theorem locI {s:Scope}{x:Str} (h:locB s x=true):Loc s x:=by
 unfold locB at h;unfold Loc;split at h<;>simp_all
theorem fnI {X:Cx}{x:Str} (h:fnB X x=true):X.fn x=true\/X.env.scope.names.lookup x=some .local:=by
 unfold fnB at h
 cases e:X.fn x with
 | true=>exact .inl rfl
 | false=>rw [e,Bool.false_or] at h;split at h<;>simp_all
def Look (env:Env) (h:Heap) (m:Str->Option Value) (x:Str) (u:Value):Prop :=
 (env.kindOf x=some .local/\m x=some u)\/((env.kindOf x=some .cell\/env.kindOf x=some .free)/\∃ c,env.cells.lookup x=some c/\h.IsCell c (some u))
structure Cx.Ok (X:Cx):Prop where
 mod:Mod X.K X.mg X.base
 kind:X.env.scope.kind=.function
 glob:X.env.globals=mainGlobals
 blt:X.env.builtins=builtinsNs
 above:X.s₀.heap.objs.size<=X.env.locals
 inj:∀ x y c,X.env.cells.lookup x=some c->X.env.cells.lookup y=some c->x=y
 has:∀ x,(X.env.kindOf x=some .cell\/X.env.kindOf x=some .free)->∃ c,X.env.cells.lookup x=some c
 cab:∀ x c,X.fn x=true->X.env.cells.lookup x=some c->X.s₀.heap.objs.size<=c
 hd:X.calm=true->X.A.handled=none
 frames:X.A.frames=some X.stack
 stk:X.stack=X.outer\/(X.stack=X.env::X.outer/\X.env.frame=some X.env.locals)
 exf:∀ b∈X.ex,b≠X.env.locals/\∀ x c,X.env.cells.lookup x=some c->c≠b
 bs:∀ b o,X.base.get? b=some o->X.s₀.heap.get? b=some o/\X.H₀ b=none
 bsz:X.base.objs.size<=X.s₀.heap.objs.size
 noex:∀ b o,X.base.get? b=some o->b∉X.ex
 exfs:∀ b∈X.ex,b∉X.fs
 funs:X.s₀.heap.FunFrames X.base X.outer
 frf:∀ b∈X.fs,X.H₀ b=none
 tb:TabsOk X.K X.H₀
structure Inv (X:Cx) (aa:List (Addr×Obj)) (U:List (Option V)) (H:Hp) (s:Shared):Prop where
 ok:X.Ok
 os:s.os=X.s₀.os
 bare:AllBare s.gens
 base:Un X.fs X.ex X.H₀ H X.s₀.heap s.heap
 loc:∃ m,s.heap.Ns X.env.locals m/\∀ (i:Nat) (x:Str) (v:V),X.N[i]?=some x->U[i]?=some (some v)->Vis X.env.scope x->∃ u,RelV v u/\Look X.env s.heap m x u
 cell:∀ x c,X.env.cells.lookup x=some c->∃ v,s.heap.IsCell c v
 free:H X.env.locals=none
 freeC:∀ x c,X.env.cells.lookup x=some c->H c=none
 pin:∀ p∈X.pn++aa,s.heap.get? p.1=some p.2/\H p.1=none/\p.1≠X.env.locals/\p.1∉X.fs/\∀ v,p.2.data≠.cell v
 hok:HOk X.prog X.w H s.heap
 len:U.length=X.N.length
section
variable {X:Cx}{aa:List (Addr×Obj)}{U:List (Option V)}{H H':Hp}{s:Shared}{h':Heap}
theorem Cx.Ok.nofr (ok:X.Ok){b:Addr}{o:Obj} (e:X.base.get? b=some o):b∉X.fs:=λhb=>by
 have:=(ok.funs.mem hb).1
 rw [e] at this;cases this
theorem Inv.bs (I:Inv X aa U H s):∀ b o,X.base.get? b=some o->s.heap.get? b=some o/\H b=none:=λb o e =>
 ⟨I.base.keep b o (I.ok.bs b o e).1 (I.ok.bs b o e).2 (I.ok.nofr e) (I.ok.noex b o e),I.base.free b o (I.ok.bs b o e).1 (I.ok.bs b o e).2 (I.ok.noex b o e)⟩
theorem Inv.bk (I:Inv X aa U H s):∀ b o,X.base.get? b=some o->s.heap.get? b=some o:=λb o e=>(I.bs b o e).1
theorem Inv.mod (I:Inv X aa U H s):Mod X.K X.mg X.base:=I.ok.mod
theorem Inv.kIn (I:Inv X aa U H s):X.K.In s.heap:=I.ok.mod.kin.keeps I.bk
theorem Inv.nolimit (I:Inv X aa U H s):s.heap.NoLimit:=I.ok.mod.nolimit.keeps I.bk
theorem Inv.lt (I:Inv X aa U H s):X.env.locals < s.heap.objs.size:=let ⟨_,hn,_⟩:=I.loc;hn.lt
theorem Inv.sz (I:Inv X aa U H s):X.s₀.heap.objs.size<=s.heap.objs.size:=le_trans I.ok.above (le_of_lt I.lt)
theorem Inv.nofs (I:Inv X aa U H s){a:Addr} (h:s.heap.objs.size<=a):a∉X.fs:=λhb=>by
 obtain ⟨_,o,ho,_⟩:=I.ok.funs.mem hb
 exact absurd (lt_of_lt_of_le (lt_size ho) (le_trans I.sz h)) (lt_irrefl _)
theorem Inv.cne (I:Inv X aa U H s):∀ x c,X.env.cells.lookup x=some c->c≠X.env.locals:=λx c e z=>by
 obtain ⟨v,o,ho,hd⟩:=I.cell x c e
 obtain ⟨m,⟨o',es,ep,bG,bj,_⟩,_⟩:=I.loc
 rw [z,bG] at ho;cases ho;rw [bj] at hd;cases hd
theorem Inv.funs (I:Inv X aa U H s):s.heap.FunFrames X.base X.outer:=by
 have all:∀ (l:List Env),(∀ b∈frs l,b∈X.fs)->X.s₀.heap.FunFrames X.base l->s.heap.FunFrames X.base l:=by
  intro l
  induction l with
  | nil=>intro _ _;trivial
  | cons env r ih =>
   intro hs hl
   obtain ⟨hk,⟨L,o,hf,hn,ho,hd⟩,hr⟩:=hl
   have hL:L∈X.fs:=hs L (by unfold frs;rw [filterMap_cons,hf];exact mem_cons_self)
   obtain ⟨sl,e⟩:=I.base.slot L o ho (I.ok.frf L hL) hL λz=>I.ok.exfs L z hL
   exact ⟨hk,⟨L,_,hf,hn,e,hd⟩,ih (λb hb=>hs b (by unfold frs;rw [filterMap_cons,hf];exact mem_cons_of_mem _ hb)) hr⟩
 exact all X.outer (λ_ hb=>hb) I.ok.funs
theorem Inv.stack (I:Inv X aa U H s):s.heap.FunFrames X.base X.stack:=by
 rcases I.ok.stk with e | ⟨e,hf⟩
 ·rw [e];exact I.funs
 ·rw [e]
  obtain ⟨m,hn,_⟩:=I.loc
  refine .cons (by rw [I.ok.kind];decide) hf hn ?_ I.funs
  exact Heap.get?_none_of_le (le_trans I.ok.bsz I.ok.above)
theorem Inv.stkSub (I:Inv X aa U H s):∀ b∈frs X.stack,b∈X.env.locals::X.fs:=λb hb=>by
 rcases I.ok.stk with e | ⟨e,hf⟩
 ·rw [e] at hb;exact mem_cons_of_mem _ hb
 ·rw [e] at hb
  unfold frs at hb
  rw [filterMap_cons,hf] at hb
  exact hb
theorem Inv.stkFree (I:Inv X aa U H s):∀ b∈frs X.stack,H b=none:=λb hb=>by
 rcases mem_cons.mp (I.stkSub b hb) with e | hb
 ·rw [e];exact I.free
 ·obtain ⟨_,o,ho,_⟩:=I.ok.funs.mem hb
  exact I.base.free b o ho (I.ok.frf b hb) λz=>I.ok.exfs b z hb
theorem Inv.step {g':Array GenState}{t':Nat}{d':Drawn}{ch:List Addr} (I:Inv X aa U H s)
  (bn:∀ b∈ch,(b∈X.ex\/X.s₀.heap.objs.size<=b)/\b≠X.env.locals/\(∀ x c,X.env.cells.lookup x=some c->c≠b)/\∀ p∈X.pn++aa,p.1≠b)
  (keep:∀ b o,b≠X.env.locals->b∉X.fs->b∉ch->s.heap.get? b=some o->H b=none->h'.get? b=some o)
  (slot:∀ b o,b≠X.env.locals->b∈X.fs->b∉ch->s.heap.get? b=some o->H b=none->∃ sl,h'.get? b=some { o with slots:=sl }) (free:∀ b o,b∉ch->s.heap.get? b=some o->H b=none->H' b=none)
  (there:∀ b o,b∉ch->s.heap.get? b=some o->∃ o',h'.get? b=some o')
  (tups:∀ b xs,H b=some (.tup xs)->H' b=some (.tup xs)) (frzs:∀ b o u,H b=some (.frz o u)->H' b=some (.frz o u)) (tbls:∀ b q,H b=some (.tbl q)->H' b=some (.tbl q))
  (ns:∀ m,s.heap.Ns X.env.locals m->h'.Ns X.env.locals m) (hok:HOk X.prog X.w H' h') (hg:AllBare g') :
  Inv X aa U H' { s with heap:=h',gens:=g',drawn:=d',toks:=t' }:=by
 have dj:∀ b o,X.s₀.heap.get? b=some o->b≠X.env.locals:=λb o e=>ne_of_lt (lt_of_lt_of_le (lt_size e) I.ok.above)
 have fE:∀ b o,X.s₀.heap.get? b=some o->b∉X.ex->b∉ch:=λb o e hx hb=>by
  rcases (bn b hb).1 with z | z
  ·exact hx z
  ·exact absurd (lt_of_lt_of_le (lt_size e) z) (lt_irrefl _)
 have fW:∀ x c,X.env.cells.lookup x=some c->∀ v,s.heap.IsCell c v->h'.IsCell c v:=λx c e v ⟨o,ho,hd⟩=>by
  have cJ:c∉ch:=λz=>(bn c z).2.2.1 x c e rfl
  by_cases hc:c∈X.fs
  ·obtain ⟨sl,q⟩:=slot c o (I.cne x c e) hc cJ ho (I.freeC x c e)
   exact ⟨_,q,hd⟩
  ·exact ⟨o,keep c o (I.cne x c e) hc cJ ho (I.freeC x c e),hd⟩
 refine ⟨I.ok,I.os,hg,⟨λb o e n hb hx=>?_,λb o e n hb hx=>?_,λb o e n hx=>?_,λb o e hx=>?_,λb xs e=>tups b xs (I.base.tups b xs e),λb o xs e=>frzs b o xs (I.base.frzs b o xs e),λb ps e=>?_⟩,?_,λx c e=>?_,?_,λx c e=>?_,λp hp=>?_,hok,I.len⟩
 ·exact keep b o (dj b o e) hb (fE b o e hx) (I.base.keep b o e n hb hx) (I.base.free b o e n hx)
 ·obtain ⟨sl,e1⟩:=I.base.slot b o e n hb hx
  obtain ⟨qu,e2⟩:=slot b _ (dj b o e) hb (fE b o e hx) e1 (I.base.free b o e n hx)
  exact ⟨qu,e2⟩
 ·obtain ⟨o',e1⟩:=I.base.there b o e hx
  exact free b o' (fE b o e hx) e1 (I.base.free b o e n hx)
 ·obtain ⟨o',e1⟩:=I.base.there b o e hx
  exact there b o' (fE b o e hx) e1
 ·exact tbls b ps (I.base.tbls b ps e)
 ·obtain ⟨m,hn,hl⟩:=I.loc
  refine ⟨m,ns m hn,λi x v e1 e2 e3=>?_⟩
  obtain ⟨u,r,l⟩:=hl i x v e1 e2 e3
  refine ⟨u,r,?_⟩
  rcases l with l | ⟨k,c,e,z⟩
  ·exact .inl l
  ·exact .inr ⟨k,c,e,fW x c e _ z⟩
 ·obtain ⟨v,z⟩:=I.cell x c e
  exact ⟨v,fW x c e v z⟩
 ·obtain ⟨m,⟨o,_,_,ho,_⟩,_⟩:=I.loc
  exact free _ o (λz=>(bn _ z).2.1 rfl) ho I.free
 ·obtain ⟨v,o,ho,hd⟩:=I.cell x c e
  exact free c o (λz=>(bn c z).2.2.1 x c e rfl) ho (I.freeC x c e)
 ·obtain ⟨e,n,ne,nf,d⟩:=I.pin p hp
  have cJ:p.1∉ch:=λz=>(bn p.1 z).2.2.2 p hp rfl
  exact ⟨keep p.1 p.2 ne nf cJ e n,free p.1 p.2 cJ e n,ne,nf,d⟩
theorem Inv.un {t':Nat} (I:Inv X aa U H s) (u:Un X.fs [] H H' s.heap h') (hok:HOk X.prog X.w H' h'):Inv X aa U H' { s with heap:=h',toks:=t' }:=by
 obtain ⟨m,⟨o,es,ep,ho,r⟩,_⟩:=id I.loc
 obtain ⟨sl,hL⟩:=u.any ho I.free (by simp)
 exact I.step (g':=s.gens) (d':=s.drawn) (ch:=[]) (λ_ z=>nomatch z) (λb o _ hb _ e n=>u.keep b o e n hb (by simp)) (λb o _ hb _ e n=>u.slot b o e n hb (by simp)) (λb o _ e n=>u.free b o e n (by simp)) (λb o _ e=>u.there b o e (by simp)) u.tups u.frzs u.tbls (λm' hm=>by
  obtain ⟨o',es',h9,bG,r'⟩:=hm
  rw [ho] at bG;cases bG
  exact ⟨_,es',h9,hL,r'⟩) hok I.bare
theorem Inv.call {g':Array GenState}{t':Nat}{d':Drawn}{ch:List Addr} (I:Inv X aa U H s) (u:Un (frs X.stack) ch H H' s.heap h') (hok:HOk X.prog X.w H' h') (hg:AllBare g')
  (bn:∀ b∈ch,(b∈X.ex\/X.s₀.heap.objs.size<=b)/\b≠X.env.locals/\(∀ x c,X.env.cells.lookup x=some c->c≠b)/\∀ p∈X.pn++aa,p.1≠b) :
  Inv X aa U H' { s with heap:=h',gens:=g',drawn:=d',toks:=t' }:=by
 obtain ⟨m,⟨o,es,ep,ho,r⟩,_⟩:=id I.loc
 obtain ⟨sl,hL⟩:=u.any ho I.free λz=>(bn _ z).2.1 rfl
 exact I.step (ch:=ch) bn (λb o hL hb hc e n=>u.keep b o e n (λz=>(mem_cons.mp (I.stkSub b z)).elim hL hb) hc) (λb o _ _ hc e n=>u.any e n hc) (λb o hc e n=>u.free b o e n hc) (λb o hc e=>u.there b o e hc) u.tups u.frzs u.tbls (λm' hm=>by
  obtain ⟨o',es',h9,bG,r'⟩:=hm
  rw [ho] at bG;cases bG
  exact ⟨_,es',h9,hL,r'⟩) hok hg
theorem Inv.turned {t':Nat}{it:Addr} (I:Inv X aa U H s) (k:∀ b o,b≠it->s.heap.get? b=some o->h'.get? b=some o) (hn:H it=none) (hL:it≠X.env.locals)
  (h1:it∈X.ex\/X.s₀.heap.objs.size<=it) (h2:∀ x c,X.env.cells.lookup x=some c->c≠it) (h3:∀ p∈X.pn++aa,p.1≠it):Inv X aa U H { s with heap:=h',toks:=t' }:=by
 have mH:∀ b u,H b=some u->b≠it:=λb u e z=>by rw [z,hn] at e;cases e
 refine I.step (g':=s.gens) (d':=s.drawn) (ch:=[it]) (λb hb=>?_) (λb o _ _ hc e _=>k b o (λz=>hc (by simp [z])) e) (λb o _ _ hc e _=>⟨o.slots,k b o (λz=>hc (by simp [z])) e⟩) (λ_ _ _ _ n=>n)
  (λb o hc e=>⟨o,k b o (λz=>hc (by simp [z])) e⟩) (λ_ _ e=>e) (λ_ _ _ e=>e) (λ_ _ e=>e) (λm hm=>?_) (λb u e=>?_) I.bare
 ·have e:b=it:=by simpa using hb
  subst e
  exact ⟨h1,hL,h2,h3⟩
 ·obtain ⟨o,es,ep,ho,r⟩:=hm
  exact ⟨o,es,ep,k _ o (Ne.symm hL) ho,r⟩
 ·refine (I.hok b u e).stay (λc v hc q=>k c v ?_ q) (λ_ q=>q) (λ_ _ q=>q) λ_ _ _ q=>q
  rcases hc with z | z
  ·rw [z];exact mH b u e
  ·exact mH c _ z
theorem Inv.tok (I:Inv X aa U H s) (t:Nat):Inv X aa U H { s with toks:=t }:=I.un (h':=s.heap) (t':=t) Un.refl I.hok
theorem Inv.kept {t':Nat} (I:Inv X aa U H s) (k:∀ b u,s.heap.get? b=some u->h'.get? b=some u):Inv X aa U H { s with heap:=h',toks:=t' }:=I.un (Un.kept k) (I.hok.kept k)
theorem Inv.laid {a:Addr}{o:HO}{t':Nat} (I:Inv X aa U H s) (k:∀ b u,s.heap.get? b=some u->h'.get? b=some u) (hp:s.heap.objs.size<=a) (new:ObjOk X.prog X.w (upd H a o) h' a o) :
  Inv X aa U (upd H a o) { s with heap:=h',toks:=t' }:=I.un (Un.laid k hp (I.hok.fresh hp)) (I.hok.laid k hp new)
theorem Inv.write {x e:Addr}{o:HO}{t':Nat} (I:Inv X aa U H s) (mu:Mut (H x)) (he:e=x\/H e=some (.own x)) (k:∀ b u,b≠e->s.heap.get? b=some u->h'.get? b=some u) (fD:∃ u,h'.get? e=some u)
  (new:ObjOk X.prog X.w (upd H x o) h' x o):Inv X aa U (upd H x o) { s with heap:=h',toks:=t' }:=I.un (Un.write mu he k fD) (I.hok.write mu he k fD new)
theorem Inv.pins_of {fX:List (Addr×Obj)} (I:Inv X aa U H s) (h:∀ p∈fX,s.heap.get? p.1=some p.2/\H p.1=none/\p.1≠X.env.locals/\p.1∉X.fs/\∀ v,p.2.data≠.cell v):Inv X fX U H s :=
 ⟨I.ok,I.os,I.bare,I.base,I.loc,I.cell,I.free,I.freeC,λp hp=>(mem_append.mp hp).elim (λz=>I.pin p (mem_append_left _ z)) (h p),I.hok,I.len⟩
theorem g1' {N:List Str} (hN:N.Nodup){i j:Nat}{x:Str} (a:N[i]?=some x) (b:N[j]?=some x):i=j:=by
 obtain ⟨h1,e1⟩:=List.getElem?_eq_some_iff.mp a
 obtain ⟨h2,e2⟩:=List.getElem?_eq_some_iff.mp b
 exact (List.getElem_inj hN).mp (e1.trans e2.symm)
theorem gb' {M:Model}{A:Around}{E:Value->Shared->Prop}{i:Nat}{x:Str}{v:V}{u:Value}{Q:Unit->Shared->Prop} (I:Inv X aa U H s) (hN:X.N.Nodup) (hi:X.N[i]?=some x) (hx:Loc X.env.scope x) (r:RelV v u)
  (h:∀ s',Inv X aa (U.set i (some v)) H s'->(∃ a,Heap.SameBut a s.heap s'.heap/\(a=X.env.locals\/X.env.cells.lookup x=some a))->Q () s') (hf:X.fn x=true\/X.env.scope.names.lookup x=some .local):wpAny M A (storeName X.env x u) Q E s:=by
 obtain ⟨m,hn,hl⟩:=id I.loc
 have mI:(X.env.scope.kind == .class||(X.env.scope.kind == .module&&X.env.locals != X.env.globals))=false:=by rw [I.ok.kind];rfl
 have jd:i < U.length:=by rw [I.len];exact (List.getElem?_eq_some_iff.mp hi).1
 have cne:=I.cne
 have cK:∀ {a:Addr}{h':Heap},(∃ o,s.heap.get? a=some o/\H a=none)->Heap.SameBut a s.heap h'->HOk X.prog X.w H h':=λ{a h'} ha hs b ob e=>by
  obtain ⟨_,_,dG⟩:=ha
  refine (I.hok b ob e).stay (λc w' hc q=>(hs.2 c ?_).trans q) (λ_ q=>q) (λ_ _ q=>q) λ_ _ _ q=>q
  rintro rfl
  rcases hc with rfl | hc
  ·rw [dG] at e;cases e
  ·rw [dG] at hc;cases hc
 rcases hx with hk | hk
 ·refine wpAny_storeName_local hk hn (λh' ef hs=>?_) mI
  obtain ⟨oL,_,_,qv,_⟩:=id hn
  refine h _ ⟨I.ok,I.os,I.bare,⟨λb o e n hb hx=>?_,λb o e n hb hx=>?_,I.base.free,λb o e hx=>?_,I.base.tups,I.base.frzs,I.base.tbls⟩,⟨_,ef,λj y v' e1 e2 e3=>?_⟩,λy c e=>?_,I.free,I.freeC,λp hp=>?_,cK ⟨oL,qv,I.free⟩ hs,by simpa using I.len⟩ ⟨_,hs,.inl rfl⟩
  ·exact (hs.2 b (ne_of_lt (lt_of_lt_of_le (lt_size e) I.ok.above))).trans (I.base.keep b o e n hb hx)
  ·obtain ⟨sl,e1⟩:=I.base.slot b o e n hb hx
   exact ⟨sl,(hs.2 b (ne_of_lt (lt_of_lt_of_le (lt_size e) I.ok.above))).trans e1⟩
  ·obtain ⟨o',e1⟩:=I.base.there b o e hx
   exact ⟨o',(hs.2 b (ne_of_lt (lt_of_lt_of_le (lt_size e) I.ok.above))).trans e1⟩
  ·by_cases hj:j=i
   ·subst hj
    rw [hi] at e1;cases e1
    rw [List.getElem?_set_self jd] at e2
    cases e2
    exact ⟨u,r,.inl ⟨hk,by simp⟩⟩
   ·rw [getElem?_set_ne (Ne.symm hj)] at e2
    obtain ⟨u',r',q⟩:=hl j y v' e1 e2 e3
    refine ⟨u',r',?_⟩
    rcases q with ⟨k,e⟩ | ⟨k,c,e,z⟩
    ·refine .inl ⟨k,?_⟩
     have:y≠x:=λe=>hj (g1' hN e1 (e▸hi))
     simp [this,e]
    ·exact .inr ⟨k,c,e,z.sameBut hs (cne y c e)⟩
  ·obtain ⟨w',z⟩:=I.cell y c e
   exact ⟨w',z.sameBut hs (cne y c e)⟩
  ·obtain ⟨e,n,ne,nf,d⟩:=I.pin p hp
   exact ⟨(hs.2 p.1 ne).trans e,n,ne,nf,d⟩
 ·have jI:X.fn x=true:=by
   rcases hf with z | z
   ·exact z
   ·rw [z] at hk;cases hk
  obtain ⟨c,hc⟩:=I.ok.has x (.inl hk)
  obtain ⟨w',z⟩:=I.cell x c hc
  refine wpAny_storeName_cell I.ok.kind hk hc z (λh' bI hs=>?_)
  obtain ⟨oc,mJ,mK⟩:=id z
  refine h { s with heap:=h' } ⟨I.ok,I.os,I.bare,⟨λb o e n hb hx=>?_,λb o e n hb hx=>?_,I.base.free,λb o e hx=>?_,I.base.tups,I.base.frzs,I.base.tbls⟩,⟨m,hn.sameBut hs (Ne.symm (cne x c hc)),λj y v' e1 e2 e3=>?_⟩,λy c' e=>?_,I.free,I.freeC,λp hp=>?_,cK ⟨oc,mJ,I.freeC x c hc⟩ hs,by simpa using I.len⟩ ⟨c,hs,.inr hc⟩
  ·exact (hs.2 b (ne_of_lt (lt_of_lt_of_le (lt_size e) (I.ok.cab x c jI hc)))).trans (I.base.keep b o e n hb hx)
  ·obtain ⟨sl,e1⟩:=I.base.slot b o e n hb hx
   exact ⟨sl,(hs.2 b (ne_of_lt (lt_of_lt_of_le (lt_size e) (I.ok.cab x c jI hc)))).trans e1⟩
  ·obtain ⟨o',e1⟩:=I.base.there b o e hx
   exact ⟨o',(hs.2 b (ne_of_lt (lt_of_lt_of_le (lt_size e) (I.ok.cab x c jI hc)))).trans e1⟩
  ·by_cases hj:j=i
   ·subst hj
    rw [hi] at e1;cases e1
    rw [List.getElem?_set_self jd] at e2
    cases e2
    exact ⟨u,r,.inr ⟨.inl hk,c,hc,bI⟩⟩
   ·rw [getElem?_set_ne (Ne.symm hj)] at e2
    obtain ⟨u',r',q⟩:=hl j y v' e1 e2 e3
    refine ⟨u',r',?_⟩
    rcases q with q | ⟨k,c',e,z'⟩
    ·exact .inl q
    ·refine .inr ⟨k,c',e,z'.sameBut hs ?_⟩
     rintro rfl
     exact hj (g1' hN e1 (I.ok.inj _ _ _ e hc▸hi))
  ·by_cases jJ:c'=c
   ·subst jJ;exact ⟨_,bI⟩
   ·obtain ⟨w2,z2⟩:=I.cell y c' e
    exact ⟨w2,z2.sameBut hs jJ⟩
  ·obtain ⟨e,n,ne,nf,d⟩:=I.pin p hp
   refine ⟨(hs.2 p.1 ?_).trans e,n,ne,nf,d⟩
   intro q
   rw [q,mJ] at e
   have q':oc=p.2:=Option.some.inj e
   exact d w' (by rw [← q'];exact mK)
theorem g2' {M:Model}{A:Around}{E:Value->Shared->Prop}{i:Nat}{x:Str}{v:V}{u:Value}{Q:Unit->Shared->Prop} (I:Inv X aa U H s) (hN:X.N.Nodup) (hi:X.N[i]?=some x) (hx:Loc X.env.scope x) (r:RelV v u)
  (h:∀ s',Inv X aa (U.set i (some v)) H s'->Q () s') (hf:X.fn x=true\/X.env.scope.names.lookup x=some .local):wpAny M A (storeName X.env x u) Q E s :=
 gb' I hN hi hx r (λs' I' _=>h s' I') hf
theorem Inv.call' {s':Shared}{ch:List Addr} (I:Inv X aa U H s) (ho:s'.os=s.os) (u:Un (frs X.stack) ch H H' s.heap s'.heap) (hok:HOk X.prog X.w H' s'.heap) (hg:AllBare s'.gens)
  (bn:∀ b∈ch,(b∈X.ex\/X.s₀.heap.objs.size<=b)/\b≠X.env.locals/\(∀ x c,X.env.cells.lookup x=some c->c≠b)/\∀ p∈X.pn++aa,p.1≠b):Inv X aa U H' s':=by
 obtain ⟨h',g',d',t',o'⟩:=s'
 have e:o'=s.os:=ho
 subst e
 exact I.call (g':=g') (t':=t') (d':=d') u hok hg bn
end
abbrev XK:=Value->Option Addr->Hp->Prop
abbrev St:=List (Option V)
abbrev VK:=V->Hp->Prop
abbrev TE:=St->Hp->VK->Prop
abbrev TT:=St->Hp->(Bool->Hp->Prop)->Prop
abbrev TA:=St->Hp->(List V->Hp->Prop)->Prop
structure Ends where
 nx:St->Hp->Prop
 rt:VK
 bk:St->Hp->Prop:=λ_ _=>False
 ct:St->Hp->Prop:=λ_ _=>False
abbrev TS:=Ends->St->Hp->Prop
def EP (X:Cx) (aa:List (Addr×Obj)) (U:St) (Q:VK) (u:Value) (s':Shared):Prop:=∃ v H',Inv X aa U H' s'/\RelV v u/\Q v H'
def TP (X:Cx) (aa:List (Addr×Obj)) (U:St) (Q:Bool->Hp->Prop) (b:Bool) (s':Shared):Prop:=∃ H',Inv X aa U H' s'/\Q b H'
def AP (X:Cx) (aa:List (Addr×Obj)) (U:St) (Q:List V->Hp->Prop) (us:List Value) (s':Shared):Prop:=∃ vs H',Inv X aa U H' s'/\Vals vs us/\Q vs H'
def SP (X:Cx) (aa:List (Addr×Obj)) (D:Ends) (f:Flow) (s':Shared):Prop :=
 match f with
 | .next=>∃ aq H',Inv X aa aq H' s'/\D.nx aq H'
 | .brk=>∃ aq H',Inv X aa aq H' s'/\D.bk aq H'
 | .cont=>∃ aq H',Inv X aa aq H' s'/\D.ct aq H'
 | .ret u=>∃ v aq H',Inv X aa aq H' s'/\RelV v u/\D.rt v H'
def PE (X:Cx) (e:Expr) (t:TE):Prop :=
 ∀ (aa:List (Addr×Obj)) (s:Shared) (U:St) (H:Hp) (Q:VK),Inv X aa U H s->t U H Q->wpAny (model X.prog X.w) X.A (eval e X.env) (EP X aa U Q) X.xe s
def PT (X:Cx) (e:Expr) (t:TT):Prop :=
 ∀ (aa:List (Addr×Obj)) (s:Shared) (U:St) (H:Hp) (Q:Bool->Hp->Prop),Inv X aa U H s->t U H Q->wpAny (model X.prog X.w) X.A (isTrue e X.env (eval e X.env)) (TP X aa U Q) X.xe s
def PW (X:Cx) (e:Expr) (t:TT):Prop :=
 ∀ (bg:Sem Value) (aa:List (Addr×Obj)) (s:Shared) (U:St) (H:Hp) (Q:Bool->Hp->Prop),Inv X aa U H s->t U H Q->wpAny (model X.prog X.w) X.A (isTrue e X.env bg) (TP X aa U Q) X.xe s
def PA (X:Cx) (es:List Expr) (t:TA):Prop :=
 ∀ (pos:Pos) (aa:List (Addr×Obj)) (s:Shared) (U:St) (H:Hp) (Q:List V->Hp->Prop),Inv X aa U H s->t U H Q->wpAny (model X.prog X.w) X.A (spliced (backTo pos (starEach es X.env))) (AP X aa U Q) X.xe s
def PS (X:Cx) (st:Stmt) (t:TS):Prop :=
 ∀ (aa:List (Addr×Obj)) (s:Shared) (U:St) (H:Hp) (D:Ends),Inv X aa U H s->t D U H->wpAny (model X.prog X.w) X.A (exec st X.env) (SP X aa D) X.xe s
def PSs (X:Cx) (st:List Stmt) (t:TS):Prop :=
 ∀ (aa:List (Addr×Obj)) (s:Shared) (U:St) (H:Hp) (D:Ends),Inv X aa U H s->t D U H->wpAny (model X.prog X.w) X.A (execs st X.env) (SP X aa D) X.xe s
theorem thn {α:Type}{t:Sem α}{Q Q':α->Shared->Prop}{M:Model}{A:Around}{E:Value->Shared->Prop}{s:Shared} (h:wpAny M A t Q E s) (hQ:∀ a s,Q a s->Q' a s):wpAny M A t Q' E s:=wpAny_mono h hQ λ_ _ x=>x
section
variable {X:Cx}
def tVar (i:Nat):TE:=λU H Q=>∃ v,U[i]?=some (some v)/\Q v H
def tC (v:V):TE:=λ_ H Q=>Q v H
theorem o7' {i:Nat}{x:Str}{pos:Pos} (hN:X.N[i]?=some x) (hv:Vis X.env.scope x) (hd:(x == ("__debug__":Str))=false:=by decide) (aP:(x == ("__classdict__":Str))=false:=by decide):PE X (.Name x pos) (tVar i):=by
 intro aa s U H Q I h
 obtain ⟨v,e,h⟩:=h
 obtain ⟨m,hn,hl⟩:=I.loc
 obtain ⟨u,r,l⟩:=hl i x v hN e hv
 have fin:EP X aa U Q u s:=⟨v,H,I,r,h⟩
 rcases l with ⟨hk,hm⟩ | ⟨hk,c,hc,bM⟩
 ·exact wpAny_Name (wpAny_loadName_local I.ok.kind hk hn hm fin) hd
 ·rcases hk with hk | hk
  ·exact wpAny_Name (wpAny_loadName_cell I.ok.kind hk hc bM fin) hd
  ·exact wpAny_Name (wpAny_loadName_free I.ok.kind hk hc bM fin aP) hd
theorem o8' {i j pos}:PE X (.Constant (.int i) j pos) (tC (.int i)):=λ_ _ _ H _ I h=>wpAny_Constant_int ⟨.int i,H,I.tok _,⟨_,rfl⟩,h⟩
theorem qo' {b j pos}:PE X (.Constant (.bool b) j pos) (tC (.bl b)):=λ_ _ _ H _ I h=>Constant_bool ⟨.bl b,H,I,rfl,h⟩
theorem o9' {j pos}:PE X (.Constant .none j pos) (tC .non):=λ_ _ _ H _ I h=>Constant_none ⟨.non,H,I,rfl,h⟩
theorem pa' {x j pos}:PE X (.Constant (.str x) j pos) (tC (.str x)):=λ_ _ _ H _ I h=>Calls.Constant_str ⟨.str x,H,I.tok _,⟨_,rfl⟩,h⟩
def Gl (X:Cx) (x:Str):Prop:=X.env.kindOf x=some .globalImplicit
theorem nJ' {E:Value->Shared->Prop}{aa:List (Addr×Obj)}{s:Shared}{U:St}{H:Hp}{x:Str}{u:Value}{pos:Pos}{Q:Value->Shared->Prop} (I:Inv X aa U H s) (hg:Gl X x) (hm:X.mg x=some u) (h:Q u s)
  (hd:(x == ("__debug__":Str))=false:=by decide):wpAny (model X.prog X.w) X.A (eval (.Name x pos) X.env) Q E s :=
 Calls.Name_function_global I.ok.kind hg (Calls.loadGlobal_global (by rw [I.ok.glob];exact I.mod.glob.keeps I.bk) hm h) hd
theorem aW' {E:Value->Shared->Prop}{aa:List (Addr×Obj)}{s:Shared}{U:St}{H:Hp}{x:Str}{u:Value}{pos:Pos}{Q:Value->Shared->Prop} (I:Inv X aa U H s) (hg:Gl X x) (hm:X.mg x=none) (hv:bootBuiltins x=some u) (h:Q u s)
  (hn:x ≠ "__name__":=by decide) (hd:(x == ("__debug__":Str))=false:=by decide):wpAny (model X.prog X.w) X.A (eval (.Name x pos) X.env) Q E s:=by
 obtain ⟨mb,h1,h2⟩:=I.mod.blt
 exact Calls.Name_function_global I.ok.kind hg (Calls.loadGlobal_builtin (by rw [I.ok.glob];exact I.mod.glob.keeps I.bk) hm (by rw [I.ok.blt];exact h1.keeps I.bk) ((h2 x hn).trans hv) h) hd
variable {a b:Expr}{ta tb:TE}{pos:Pos}
def PC (X:Cx) (op:CmpOp) (a b:Expr) (t:TE):Prop :=
 ∀ (aa:List (Addr×Obj)) (s:Shared) (U:St) (H:Hp) (Q:VK),Inv X aa U H s->t U H Q →
  wpAny (model X.prog X.w) X.A (eval a X.env) (λv au=>wpAny (model X.prog X.w) X.A (eval b X.env) (λu cL=>wpAny (model X.prog X.w) X.A (compareOp op v u) (EP X aa U Q) X.xe cL) X.xe au) X.xe s
def tB (t:TE):TT:=λU H Q=>t U H λx H1=>∃ c,x=.bl c/\Q c H1
theorem pb' {op:CmpOp}{t:TE} (h:PC X op a b t) (h1:behindInMarks op b=false):PT X (.Compare a [op] [b] pos) (tB t):=by
 intro aa s U H Q I hw
 refine wpAny_isTrue_Compare1 (thn (h aa s U H _ I hw) λv s1 h1=>thn h1 λu s2 h2=>thn h2 λc s3 ⟨x,H1,I1,r1,q1⟩=>?_) h1
 obtain ⟨d,rfl,q⟩:=q1
 cases r1
 exact wpAny_truthy_bool ⟨H1,I1,q⟩
theorem pc' {e:Expr}{t:TE} (h:PE X e t) (he:∀ bg,isTrue e X.env bg=(do let v ← bg;standAt e.pos;holding [v] (truthy v)):=by intro _;rfl):PT X e (tB t):=by
 intro aa s U H Q I hw
 refine isTrue_plain (thn (h aa s U H _ I hw) λv s1 ⟨x,H1,I1,r1,q1⟩=>?_) (he _)
 obtain ⟨d,rfl,q⟩:=q1
 cases r1
 exact wpAny_truthy_bool ⟨H1,I1,q⟩
variable {tA ic:TT}{aB:List Expr}
def tAnd (t u:TT):TT:=λU H Q=>t U H λc H1=>if c=true then u U H1 Q else Q false H1
def tOr (t u:TT):TT:=λU H Q=>t U H λc H1=>if c=true then Q true H1 else u U H1 Q
def tNot (t:TT):TT:=λU H Q=>t U H λc H1=>Q (!c) H1
theorem nK' (ha:PT X a tA):PW X (.BoolOp .And [a] pos) tA:=by
 intro wh aa s U H Q I h
 refine isTrue_and (thn (ha aa s U H Q I h) λc s1 e=>?_)
 cases c with
 | true=>exact isTrue_and_nil e
 | false=>exact e
theorem pd' (ha:PT X a tA):PW X (.BoolOp .Or [a] pos) tA:=by
 intro wh aa s U H Q I h
 refine isTrue_or (thn (ha aa s U H Q I h) λc s1 e=>?_)
 cases c with
 | false=>exact isTrue_or_nil e
 | true=>exact e
theorem pe' (ha:PT X a tA) (hb:PW X (.BoolOp .And (b::aB) pos) ic):PW X (.BoolOp .And (a::b::aB) pos) (tAnd tA ic):=by
 intro wh aa s U H Q I h
 refine isTrue_and (thn (ha aa s U H _ I h) λc s1 ⟨H1,I1,q1⟩=>?_)
 cases c with
 | true=>exact hb wh aa s1 U H1 Q I1 q1
 | false=>exact ⟨H1,I1,q1⟩
theorem qp' (ha:PT X a tA) (hb:PW X (.BoolOp .Or (b::aB) pos) ic):PW X (.BoolOp .Or (a::b::aB) pos) (tOr tA ic):=by
 intro wh aa s U H Q I h
 refine isTrue_or (thn (ha aa s U H _ I h) λc s1 ⟨H1,I1,q1⟩=>?_)
 cases c with
 | true=>exact ⟨H1,I1,q1⟩
 | false=>exact hb wh aa s1 U H1 Q I1 q1
theorem pf' (ha:PT X a tA):PT X (.UnaryOp .Not a pos) (tNot tA):=by
 intro aa s U H Q I h
 exact isTrue_not (ha aa s U H (λc H1=>Q (!c) H1) I h)
noncomputable def tAndV (ta tb:TE):TE:=λU H Q=>ta U H λx H1=>∃ c,x=.bl c/\if c=true then tb U H1 Q else Q (.bl false) H1
theorem pg' {op}{t:TE} (h:PE X a t):PE X (.BoolOp op [a] pos) t:=λaa s U H Q I hw=>BoolOp_one (h aa s U H Q I hw)
theorem ph' (ha:PE X a ta) (hb:PE X (.BoolOp .And (b::aB) pos) tb):PE X (.BoolOp .And (a::b::aB) pos) (tAndV ta tb):=by
 intro aa s U H Q I h
 refine BoolOp_and (thn (ha aa s U H _ I h) λv s1 ⟨x,H1,I1,r1,q1⟩=>?_)
 obtain ⟨c,rfl,q1⟩:=q1
 cases r1
 refine wpAny_truthy_bool ?_
 cases c with
 | true=>exact hb aa s1 U H1 Q I1 q1
 | false=>exact ⟨.bl false,H1,I1,rfl,q1⟩
end
def SqL (K:PySem.W.Frag) (H:Hp) (a:Addr) (xs:List V):Prop :=
 Rd H a (.lst xs) ∨
  ∃ (o:Obj) (af:Array Value) (n:Nat),K.lookup a=some o/\o.cls=.type "list"/\o.dict=none/\o.data=.seq af n/\af.size<=sizeLine/\Vals xs af.toList
def SqT (K:PySem.W.Frag) (H:Hp) (a:Addr) (xs:List V):Prop :=
 Rd H a (.tup xs) ∨
  ∃ (o:Obj) (af:Array Value) (n:Nat),K.lookup a=some o/\o.cls=.type "tuple"/\o.data=.seq af n/\af.size<=sizeLine/\Vals xs af.toList
noncomputable def absV:Value->Option V
 | .none=>some .non
 | .bool b=>some (.bl b)
 | .int i _=>some (.int i)
 | .str x _=>some (.str x)
 | .bytes b _=>some (.byt b)
 | .float b _=>some (.flt b)
 | .ref a=>some (.ref a)
 | .type n=>some (.ty n)
 | _=>none
theorem RelV.abs {x:V}{u:Value} (r:RelV x u):absV u=some x:=by
 cases x with
 | non=>cases r;rfl
 | bl _=>cases r;rfl
 | int _=>obtain ⟨t,rfl⟩:=r;rfl
 | str _=>obtain ⟨t,rfl⟩:=r;rfl
 | byt _=>obtain ⟨t,rfl⟩:=r;rfl
 | flt _=>obtain ⟨t,rfl⟩:=r;rfl
 | ref _=>cases r;rfl
 | ty _=>cases r;rfl
theorem RelV.inj {x y:V}{u:Value} (r:RelV x u) (q:RelV y u):x=y:=Option.some.inj (r.abs.symm.trans q.abs)
theorem Vals.inj:∀ {xs ys:List V}{us:List Value},Vals xs us->Vals ys us->xs=ys
 | _,_,_,.nil,.nil=>rfl
 | _,_,_,.cons r t,.cons r' t'=>by rw [r.inj r',Vals.inj t t']
section
variable {X:Cx}{aa:List (Addr×Obj)}{U:St}{H:Hp}{s:Shared}{a:Addr}{xs ys:List V}
theorem SqL.of {K:PySem.W.Frag} (h:H a=some (.lst xs)):SqL K H a xs:=.inl (.inl h)
theorem SqT.of {K:PySem.W.Frag} (h:H a=some (.tup xs)):SqT K H a xs:=.inl (.inl h)
theorem Inv.list (I:Inv X aa U H s) (h:SqL X.K H a xs):∃ af:List Value,Vals xs af/\PlainL s.heap a af.toArray/\xs.length<=sizeLine:=by
 rcases h with h | ⟨o,af,n,hk,hc,hd,hs,hz,r⟩
 ·obtain ⟨z,af,n,r,e⟩:=h.ok I.hok
  exact ⟨af,r,⟨_,n,e,rfl,rfl,rfl⟩,z⟩
 ·refine ⟨af.toList,r,⟨o,n,I.kIn a o hk,hc,hd,by simpa using hs⟩,?_⟩
  have e:=r.length
  simp only [length_toList] at e
  omega
theorem Inv.tuple (I:Inv X aa U H s) (h:SqT X.K H a xs):∃ af:List Value,Vals xs af/\IsTup s.heap a af.toArray/\xs.length<=sizeLine:=by
 rcases h with h | ⟨o,af,n,hk,hc,hs,hz,r⟩
 ·obtain ⟨z,af,r,p⟩:=h.ok I.hok
  exact ⟨af,r,p,z⟩
 ·refine ⟨af.toList,r,⟨o,I.kIn a o hk,hc,n,by simpa using hs⟩,?_⟩
  have e:=r.length
  simp only [length_toList] at e
  omega
theorem Inv.list_inj (I:Inv X aa U H s) (h:SqL X.K H a xs) (h':SqL X.K H a ys):xs=ys:=by
 obtain ⟨af,r,⟨o,n,e,_,_,d⟩,_⟩:=I.list h
 obtain ⟨its',r',⟨o',n',e',_,_,d'⟩,_⟩:=I.list h'
 rw [e] at e';cases e'
 rw [d] at d'
 injection d' with d1 _
 have:af=its':=by simpa using congrArg toList d1
 subst this
 exact r.inj r'
theorem Inv.tuple_inj (I:Inv X aa U H s) (h:SqT X.K H a xs) (h':SqT X.K H a ys):xs=ys:=by
 obtain ⟨af,r,⟨o,e,_,n,d⟩,_⟩:=I.tuple h
 obtain ⟨its',r',⟨o',e',_,n',d'⟩,_⟩:=I.tuple h'
 rw [e] at e';cases e'
 rw [d] at d'
 injection d' with d1 _
 have:af=its':=by simpa using congrArg toList d1
 subst this
 exact r.inj r'
end
noncomputable abbrev Cx.wish (X:Cx) (E:Value->Shared->Prop):Cx:={ X with xe:=E }
noncomputable abbrev Cx.nox (X:Cx):Cx:=X.wish λ_ _=>False
theorem Cx.Ok.wish {X:Cx} (ok:X.Ok) (E:Value->Shared->Prop):(X.wish E).Ok :=
 ⟨ok.mod,ok.kind,ok.glob,ok.blt,ok.above,ok.inj,ok.has,ok.cab,ok.hd,ok.frames,ok.stk,ok.exf,ok.bs,ok.bsz,ok.noex,ok.exfs,ok.funs,ok.frf,ok.tb⟩
theorem Cx.Ok.unwish {X:Cx}{E:Value->Shared->Prop} (ok:(X.wish E).Ok):X.Ok :=
 ⟨ok.mod,ok.kind,ok.glob,ok.blt,ok.above,ok.inj,ok.has,ok.cab,ok.hd,ok.frames,ok.stk,ok.exf,ok.bs,ok.bsz,ok.noex,ok.exfs,ok.funs,ok.frf,ok.tb⟩
section
variable {X:Cx}{aa:List (Addr×Obj)}{U:St}{H:Hp}{s:Shared}{E:Value->Shared->Prop}
theorem Inv.wish (I:Inv X aa U H s) (E:Value->Shared->Prop):Inv (X.wish E) aa U H s:=⟨I.ok.wish E,I.os,I.bare,I.base,I.loc,I.cell,I.free,I.freeC,I.pin,I.hok,I.len⟩
theorem Inv.unwish (I:Inv (X.wish E) aa U H s):Inv X aa U H s:=⟨I.ok.unwish,I.os,I.bare,I.base,I.loc,I.cell,I.free,I.freeC,I.pin,I.hok,I.len⟩
theorem SP.unwish {D:Ends}{f:Flow}{s':Shared} (h:SP (X.wish E) aa D f s'):SP X aa D f s':=by
 cases f with
 | next=>obtain ⟨aq,H',I,q⟩:=h;exact ⟨aq,H',I.unwish,q⟩
 | brk=>obtain ⟨aq,H',I,q⟩:=h;exact ⟨aq,H',I.unwish,q⟩
 | cont=>obtain ⟨aq,H',I,q⟩:=h;exact ⟨aq,H',I.unwish,q⟩
 | ret u=>obtain ⟨v,aq,H',I,r,q⟩:=h;exact ⟨v,aq,H',I.unwish,r,q⟩
theorem PSs.nox {st:List Stmt}{t:TS} (h:PSs X.nox st t):PSs X st t:=λaa s U H D I hw =>
 wpAny_mono (h aa s U H D (I.wish _) hw) (λ_ _ q=>q.unwish) λ_ _ z=>elim z
end
section
variable {X:Cx}{st:Stmt}{aB:List Stmt}{t u:TS}{e:Expr}{te:TE}{pos:Pos}
def tNext:TS:=λD U H=>D.nx U H
def tSeq (t u:TS):TS:=λD U H=>t { D with nx:=u D } U H
theorem nL':PSs X [] tNext:=λ_ _ U H _ I h=>wpAny_execs_nil ⟨U,H,I,h⟩
theorem l4' (h1:PS X st t) (h2:PSs X aB u):PSs X (st::aB) (tSeq t u):=by
 intro aa s U H D I h
 refine wpAny_execs_cons (thn (h1 aa s U H { D with nx:=u D } I h) λf s1 q=>?_)
 cases f with
 | next =>
  obtain ⟨aq,H',I',q⟩:=q
  exact h2 aa s1 aq H' D I' q
 | ret v=>exact q
 | brk=>exact q
 | cont=>exact q
theorem nM' (h1:PS X st t):PSs X [st] t:=by
 intro aa s U H D I h
 refine wpAny_execs_cons (thn (h1 aa s U H D I h) λf s1 q=>?_)
 cases f with
 | next=>exact wpAny_execs_nil q
 | ret v=>exact q
 | brk=>exact q
 | cont=>exact q
theorem Inv.quiet {aa:List (Addr×Obj)}{U:St}{H:Hp}{s:Shared} (I:Inv X aa U H s):interactive X.env=false:=by simp [interactive,I.ok.kind]
def tDrop (te:TE):TS:=λD U H=>te U H λ_ H1=>D.nx U H1
theorem iI' (he:PE X e te) (hs:swapsWith e none pos.line X.env=pure false:=by rfl):PS X (.Expr e pos) (tDrop te):=by
 intro aa s U H D I h
 exact wpAny_Expr_any (thn (he aa s U H _ I h) λv s1 ⟨x,H1,I1,r1,q1⟩=>⟨U,H1,I1,q1⟩) I.quiet hs
def tRet (te:TE):TS:=λD U H=>te U H D.rt
theorem g3' (he:PE X e te):PS X (.Return (some e) pos) (tRet te):=by
 intro aa s U H D I h
 exact wpAny_Return_some (thn (he aa s U H _ I h) λv s1 ⟨x,H1,I1,r1,q1⟩=>⟨x,U,H1,I1,r1,q1⟩)
def tIfS (c:TT) (t u:TS):TS:=λD U H=>c U H λb H1=>if b=true then t D U H1 else u D U H1
theorem qq' {c:Expr}{a b:List Stmt}{tc:TT} (hc:PT X c tc) (ha:PSs X a t) (hb:PSs X b u):PS X (.If c a b pos) (tIfS tc t u):=by
 intro aa s U H D I h
 refine wpAny_If (thn (hc aa s U H _ I h) λd s1 ⟨H1,I1,q1⟩=>?_)
 cases d with
 | true=>exact ha aa s1 U H1 D I1 q1
 | false=>exact hb aa s1 U H1 D I1 q1
end
abbrev TG:=V->St->Hp->(St->Hp->Prop)->Prop
abbrev TGs:=List V->St->Hp->(St->Hp->Prop)->Prop
def PG (X:Cx) (ig:Expr) (t:TG):Prop :=
 ∀ (aa:List (Addr×Obj)) (s:Shared) (U:St) (H:Hp) (v:V) (u:Value) (Q:St->Hp->Prop),Inv X aa U H s->RelV v u->t v U H Q →
  wpAny (model X.prog X.w) X.A (assign ig X.env u) (λ_ s'=>∃ aq H',Inv X aa aq H' s'/\Q aq H') X.xe s
def PGs (X:Cx) (ts:List Expr) (t:TGs):Prop :=
 ∀ (aa:List (Addr×Obj)) (s:Shared) (U:St) (H:Hp) (vs:List V) (us:List Value) (Q:St->Hp->Prop),Inv X aa U H s->Vals vs us->t vs U H Q →
  wpAny (model X.prog X.w) X.A (assignInOrder ((assignEach ts X.env).map (·.2)) us) (λ_ s'=>∃ aq H',Inv X aa aq H' s'/\Q aq H') X.xe s
abbrev TSet:=V->V->V->Hp->(Hp->Prop)->Prop
def PSet (X:Cx) (t:TSet):Prop :=
 ∀ (aa:List (Addr×Obj)) (s:Shared) (U:St) (H:Hp) (o i v:V) (ov iv u:Value) (Q:Hp->Prop),Inv X aa U H s->RelV o ov->RelV i iv->RelV v u->t o i v H Q →
  wpAny (model X.prog X.w) X.A (setItem ov iv u) (λ_ s'=>∃ H',Inv X aa U H' s'/\Q H') X.xe s
section
variable {X:Cx}{pos:Pos}
def gName (i:Nat):TG:=λv U H Q=>Q (U.set i (some v)) H
theorem nN' {i:Nat}{x:Str} (hN:X.N.Nodup) (hi:X.N[i]?=some x) (hx:Loc X.env.scope x) (hf:X.fn x=true\/X.env.scope.names.lookup x=some .local):PG X (.Name x pos) (gName i):=by
 intro aa s U H v u Q I r h
 exact wpAny_assign_Name (g2' I hN hi hx r (λs' I'=>⟨_,H,I',h⟩) hf)
def gNil:TGs:=λvs U H Q=>vs=[]/\Q U H
def gCons (t:TG) (u:TGs):TGs:=λvs U H Q=>∃ v r,vs=v::r/\t v U H λaq H'=>u r aq H' Q
theorem nO':PGs X [] gNil:=by
 intro aa s U H vs us Q I r h
 obtain ⟨e,h⟩:=h
 subst e
 cases r
 exact assignInOrder_nil ⟨U,H,I,h⟩
theorem l5' {e:Expr}{es:List Expr}{t:TG}{u:TGs} (h1:PG X e t) (h2:PGs X es u)
  (hs:(assignEach (e::es) X.env).map (·.2)=assign e X.env::(assignEach es X.env).map (·.2):=by rfl):PGs X (e::es) (gCons t u):=by
 intro aa s U H vs us Q I r h
 obtain ⟨v,vr,e1,h⟩:=h
 subst e1
 cases r with
 | cons r rr =>
  rw [hs]
  refine assignInOrder_cons (thn (h1 aa s U H _ _ _ I r h) λ_ s1 ⟨dH,H1,I1,q1⟩=>?_)
  exact h2 aa s1 dH H1 _ _ Q I1 rr q1
noncomputable def gTup (K:PySem.W.Frag) (n:Nat) (t:TGs):TG:=λv U H Q=>∃ a xs,v=.ref a/\SqT K H a xs/\xs.length=n/\t xs U H Q
theorem pi' {es:List Expr}{k:Nat}{t:TGs}{n:Nat} (hc:X.calm=true) (h:PGs X es t)
  (hn:(assignEach es X.env).length=n:=by rfl) (jK:(assignEach es X.env).findIdx? (·.1)=none:=by rfl):PG X (.Tuple es k pos) (gTup X.K n t):=by
 intro aa s U H v u Q I r hw
 obtain ⟨a,xs,e1,hq,hl,hw⟩:=hw
 subst e1
 cases r
 obtain ⟨af,rv,ht,hz⟩:=I.tuple hq
 refine assign_Tuple_tuple (I.ok.hd hc) ht (by simp [hn,← hl,rv.length]) jK λh' hx=>?_
 have I1:Inv X aa U H { s with heap:=h' }:=I.kept (t':=s.toks) λb o e=>hx b o (ne_of_lt (lt_size e)) e
 exact h aa _ U H xs _ Q I1 (by simpa using rv) hw
noncomputable def gSub (to ti:TE) (t:TSet):TG:=λv U H Q=>to U H λo H1=>ti U H1 λi H2=>t o i v H2 λH3=>Q U H3
theorem pj' {o i:Expr}{to ti:TE}{t:TSet} (ho:PE X o to) (hi:PE X i ti) (hs:PSet X t)
  (ha:∀ v,assign (.Subscript o i pos) X.env v=(do
   let ov ← holding [v] (eval o X.env)
   let iv ← holding [v,ov] (eval i X.env)
   standAt pos
   holding [v,ov,iv] (setItem ov iv v)
   release [v,ov,iv] []):=by intro _;rfl):PG X (.Subscript o i pos) (gSub to ti t):=by
 intro aa s U H v u Q I r h
 rw [ha]
 refine wpAny_bind (wpAny_holding (thn (ho aa s U H _ I h) λov s1 ⟨x,H1,I1,r1,q1⟩=>?_))
 refine wpAny_bind (wpAny_holding (thn (hi aa s1 U H1 _ I1 q1) λiv s2 ⟨y,H2,I2,r2,q2⟩=>?_))
 refine wpAny_bind (wpAny_standAt (wpAny_bind (wpAny_holding (thn (hs aa s2 U H2 x y v ov iv u _ I2 r1 r2 r q2) λ_ s3 ⟨H3,I3,q3⟩=>?_))))
 exact wpAny_release ⟨U,H3,I3,q3⟩
def tAsg (te:TE) (g:TG):TS:=λD U H=>te U H λx H1=>g x U H1 D.nx
theorem pk' {tg e:Expr}{te:TE}{g:TG} (he:PE X e te) (hg:PG X tg g) (hs:swapsWithSole [tg] e pos.line X.env=pure false:=by rfl) (hw:swappedStores [tg] e X.env=pure none:=by rfl)
  (h1:(assignEach [tg] X.env).map (·.2)=[assign tg X.env]:=by rfl):PS X (.Assign [tg] e pos) (tAsg te g):=by
 intro aa s U H D I h
 refine wpAny_Assign_stores (thn (he aa s U H _ I h) λv s1 ⟨x,H1,I1,r1,q1⟩=>?_) hs hw
 rw [h1]
 exact thn (hg aa s1 U H1 x v _ I1 r1 q1) λ_ s2 q=>q
theorem g4' {i:Nat}{x:Str}{e:Expr}{te:TE}{az:Pos} (hN:X.N.Nodup) (hi:X.N[i]?=some x) (hx:Loc X.env.scope x) (he:PE X e te) (hs:swapsWith e (some (.Name x az)) pos.line X.env=pure false:=by rfl) (hf:X.fn x=true\/X.env.scope.names.lookup x=some .local) :
  PS X (.Assign [.Name x az] e pos) (tAsg te (gName i)):=by
 intro aa s U H D I h
 refine wpAny_Assign_Name (thn (he aa s U H _ I h) λv s1 ⟨y,H1,I1,r1,q1⟩=>?_) hs
 exact g2' I1 hN hi hx r1 (λs2 I2=>⟨_,H1,I2,q1⟩) hf
end
structure It where
 go:Nat->Hp->Prop
 yld:Nat->Hp->V->Hp->Prop
 stop:Nat->Hp->Prop
def FpOk (X:Cx) (aa:List (Addr×Obj)) (H:Hp) (b:Addr):Prop :=
 H b=none/\b≠X.env.locals/\b∉X.fs/\(b∈X.ex\/X.s₀.heap.objs.size<=b)/\(∀ x c,X.env.cells.lookup x=some c->c≠b)/\∀ p∈X.pn++aa,p.1≠b
theorem Inv.fpOk {X:Cx}{aa:List (Addr×Obj)}{U:St}{H H':Hp}{s:Shared}{b:Addr} (I:Inv X aa U H s) (hb:s.heap.objs.size<=b) (hn:H' b=none):FpOk X aa H' b:=by
 refine ⟨hn,ne_of_gt (lt_of_lt_of_le I.lt hb),I.nofs hb,.inr (le_trans I.sz hb),λx c e z=>?_,λp hp z=>?_⟩
 ·obtain ⟨v,q⟩:=I.cell x c e
  exact absurd (lt_of_lt_of_le q.lt (by rw [z];exact hb)) (lt_irrefl _)
 ·exact absurd (lt_of_lt_of_le (lt_size (I.pin p hp).1) (by rw [z];exact hb)) (lt_irrefl _)
structure Turn (P:Program) (w:World) (K:PySem.W.Frag) (tg:Expr) (J:It) (fp:List Addr) (it:Addr) (tn:Nat->Heap->Prop):Prop where
 mem:it∈fp
 obj:∀ i h,tn i h->∀ b∈fp,∃ o,h.get? b=some o/\∀ v,o.data≠.cell v
 keep:∀ i h h',tn i h->(∀ b∈fp,∀ o,h.get? b=some o->h'.get? b=some o)->tn i h'
 item:∀ (X:Cx),X.prog=P->X.w=w->X.K=K->X.calm=true->∀ (i:Nat) (aa:List (Addr×Obj)) (s:Shared) (U:St) (H:Hp) (E:Value->Shared->Prop),Inv X aa U H s->(∀ b∈fp,FpOk X aa H b)->tn i s.heap->J.go i H →
  wpAny (model P w) X.A (pyNext (.ref it)) (λr s1=>∃ u,r=some u ∧
   wpAny (model P w) X.A (letOwnedTupleGo tg (.ref it) u) (λ_ s2=>∃ x H',Inv X aa U H' s2/\RelV x u/\J.yld i H x H'/\tn (i+1) s2.heap/\∀ b∈fp,H' b=none) E s1) E s
 done:∀ (X:Cx),X.prog=P->X.w=w->X.K=K->X.calm=true->∀ (i:Nat) (aa:List (Addr×Obj)) (s:Shared) (U:St) (H:Hp) (E:Value->Shared->Prop),Inv X aa U H s->(∀ b∈fp,FpOk X aa H b)->tn i s.heap->J.stop i H →
  wpAny (model P w) X.A (pyNext (.ref it)) (λr s1=>r=none/\Inv X aa U H s1) E s
 self:∀ (A:Around) (i:Nat) (s:Shared) (Q:Value->Shared->Prop) (E:Value->Shared->Prop),tn i s.heap->Q (.ref it) s->wpAny (model P w) A (pyIter (.ref it)) Q E s
abbrev TI:=St->Hp->(It->Hp->Prop)->Prop
def PIE (X:Cx) (aa:List (Addr×Obj)) (U:St) (tg:Expr) (R:It->Hp->Prop) (ii:Value) (s2:Shared):Prop :=
 ∃ (it:Addr) (fp:List Addr) (tn:Nat->Heap->Prop) (J:It) (H':Hp),ii=.ref it/\Inv X aa U H' s2/\Turn X.prog X.w X.K tg J fp it tn/\tn 0 s2.heap/\(∀ b∈fp,FpOk X aa H' b)/\R J H'
def PI (X:Cx) (tg iter:Expr) (wi:TI):Prop :=
 ∀ (aa:List (Addr×Obj)) (s:Shared) (U:St) (H:Hp) (R:It->Hp->Prop),Inv X aa U H s->wi U H R →
  wpAny (model X.prog X.w) X.A (eval iter X.env) (λv s1=>wpAny (model X.prog X.w) X.A (pyIter v) (PIE X aa U tg R) X.xe s1) X.xe s
theorem gX' {M:Model}{A:Around}{E:Value->Shared->Prop}{s:Shared}{tg:Expr}{it:Addr}{u:Value}{o:Obj}{n:String}{vs:Array Value}{Q:Unit->Shared->Prop} (ho:s.heap.get? it=some o) (hc:o.cls=.type n) (hd:o.data=.fields vs)
  (hn:["enumerate", "zip", "dict_itemiterator", "dict_reverseitemiterator", "odict_iterator", "itertools.zip_longest", "itertools.pairwise"].contains n=false) (hQ:Q () s):wpAny M A (letOwnedTupleGo tg (.ref it) u) Q E s:=by
 unfold letOwnedTupleGo
 cases tg<;>first
  | exact wpAny_pure hQ
  | (cases u<;>first
    | exact wpAny_pure hQ
    | (refine wpAny_bind (wpAny_load ho ?_)
       rw [hc,hd]
       show wpAny M A (if (["enumerate", "zip", "dict_itemiterator", "dict_reverseitemiterator", "odict_iterator", "itertools.zip_longest", "itertools.pairwise"].contains n&&vs[0]? == some (rawInt _))=true then _ else _) Q E s
       rw [if_neg (by intro h;rw [hn,Bool.false_and] at h;cases h)]
       exact wpAny_pure hQ))
noncomputable def Itl (K:PySem.W.Frag) (a:Addr):It :=
 ⟨λi H=>∃ xs x,SqL K H a xs/\xs[i]?=some x,λi H x H'=>H'=H/\∀ xs,SqL K H a xs->xs[i]?=some x,λi H=>∃ xs,SqL K H a xs/\xs.length<=i⟩
noncomputable def Itt (K:PySem.W.Frag) (a:Addr):It :=
 ⟨λi H=>∃ xs x,SqT K H a xs/\xs[i]?=some x,λi H x H'=>H'=H/\∀ xs,SqT K H a xs->xs[i]?=some x,λi H=>∃ xs,SqT K H a xs/\xs.length<=i⟩
noncomputable def Itr (lo:Int) (n:Nat):It:=⟨λi _=>i < n,λi H x H'=>H'=H/\x=.int (lo+i),λi _=>n<=i⟩
theorem ki' {P:Program}{w:World}{K:PySem.W.Frag}{tg:Expr} (a it:Addr):Turn P w K tg (Itl K a) [it] it (λi h=>h.IsListIter it a i) where
 mem:=by simp
 obj:=λi h st b hb=>by
  have e:b=it:=by simpa using hb
  subst e
  obtain ⟨o,e,c,d⟩:=st
  exact ⟨o,e,λv z=>by rw [d] at z;cases z⟩
 keep:=λi h h' st k=>st.at λo e=>k it (by simp) o e
 item:=by
  intro X hP hw hK hc i aa s U H E I hf st hg
  subst hP hw hK
  obtain ⟨xs,x,hq,hx⟩:=hg
  obtain ⟨af,rv,p,hz⟩:=I.list hq
  obtain ⟨u,hu,ru⟩:=rv.get hx
  obtain ⟨f0,f1,f2,f3,f4,f5⟩:=hf it (by simp)
  refine wpAny_pyNext_list_item st p.isList (x:=u) (by simpa using hu) λh' ag sb=>?_
  have I1:Inv X aa U H { s with heap:=h' }:=I.turned (t':=s.toks) (λb o hb e=>(sb.2 b hb).trans e) f0 f1 f3 f4 f5
  obtain ⟨o,e,c,d⟩:=id ag
  exact ⟨u,rfl,gX' (s:={ s with heap:=h' }) e c d (by decide) ⟨x,H,I1,ru,⟨rfl,λys hy=>by rw [I.list_inj hy hq];exact hx⟩,ag,λb hb=>(hf b hb).1⟩⟩
 done:=by
  intro X hP hw hK hc i aa s U H E I hf st hg
  subst hP hw hK
  obtain ⟨xs,hq,hx⟩:=hg
  obtain ⟨af,rv,p,hz⟩:=I.list hq
  obtain ⟨f0,f1,f2,f3,f4,f5⟩:=hf it (by simp)
  have hl:=rv.length
  exact wpAny_pyNext_list_end (I.ok.hd hc) st p.isList (by simp;omega) λh' eb=>⟨rfl,I.turned (t':=s.toks) (λb o hb e=>eb b o hb e) f0 f1 f3 f4 f5⟩
 self:=λ_ _ _ _ _ st h=>wpAny_pyIter_listiter st h
theorem jq' {P:Program}{w:World}{K:PySem.W.Frag}{tg:Expr} (a it:Addr):Turn P w K tg (Itt K a) [it] it (λi h=>h.IsTupleIter it a i) where
 mem:=by simp
 obj:=λi h st b hb=>by
  have e:b=it:=by simpa using hb
  subst e
  obtain ⟨o,e,c,d⟩:=st
  exact ⟨o,e,λv z=>by rw [d] at z;cases z⟩
 keep:=λi h h' st k=>st.at λo e=>k it (by simp) o e
 item:=by
  intro X hP hw hK hc i aa s U H E I hf st hg
  subst hP hw hK
  obtain ⟨xs,x,hq,hx⟩:=hg
  obtain ⟨af,rv,p,hz⟩:=I.tuple hq
  obtain ⟨u,hu,ru⟩:=rv.get hx
  obtain ⟨f0,f1,f2,f3,f4,f5⟩:=hf it (by simp)
  refine wpAny_pyNext_tuple_item st (show s.heap.IsTuple a af.toArray from p) (x:=u) (by simpa using hu) λh' ag sb=>?_
  have I1:Inv X aa U H { s with heap:=h' }:=I.turned (t':=s.toks) (λb o hb e=>(sb.2 b hb).trans e) f0 f1 f3 f4 f5
  obtain ⟨o,e,c,d⟩:=id ag
  exact ⟨u,rfl,gX' (s:={ s with heap:=h' }) e c d (by decide) ⟨x,H,I1,ru,⟨rfl,λys hy=>by rw [I.tuple_inj hy hq];exact hx⟩,ag,λb hb=>(hf b hb).1⟩⟩
 done:=by
  intro X hP hw hK hc i aa s U H E I hf st hg
  subst hP hw hK
  obtain ⟨xs,hq,hx⟩:=hg
  obtain ⟨af,rv,p,hz⟩:=I.tuple hq
  obtain ⟨f0,f1,f2,f3,f4,f5⟩:=hf it (by simp)
  have hl:=rv.length
  exact wpAny_pyNext_tuple_end (I.ok.hd hc) st (show s.heap.IsTuple a af.toArray from p) (by simp;omega) λh' eb=>⟨rfl,I.turned (t':=s.toks) (λb o hb e=>eb b o hb e) f0 f1 f3 f4 f5⟩
 self:=λ_ _ _ _ _ st h=>wpAny_pyIter_tupleiter st h
theorem jr' {P:Program}{w:World}{K:PySem.W.Frag}{tg:Expr} (it:Addr) (lo:Int) (n:Nat):Turn P w K tg (Itr lo n) [it] it (λi h=>IsRangeIter h it (lo+(i:Nat)*1) ((n:Int) - (i:Nat)) 1) where
 mem:=by simp
 obj:=λi h st b hb=>by
  have e:b=it:=by simpa using hb
  subst e
  exact ⟨_,st,λv z=>by
   have z':fields _=Data.cell v:=z
   cases z'⟩
 keep:=λi h h' st k=>k it (by simp) _ st
 item:=by
  intro X hP hw hK hc i aa s U H E I hf st hg
  subst hP hw hK
  obtain ⟨f0,f1,f2,f3,f4,f5⟩:=hf it (by simp)
  have W:=Walks.range (prog:=X.prog) (w:=X.w) (I.ok.hd hc) it lo 1 n
  refine W.item i s _ _ hg st λv h' tk hv ag kk=>?_
  obtain ⟨t,rfl⟩:=hv
  have I1:Inv X aa U H { s with heap:=h',toks:=tk }:=I.turned (λb o hb e=>kk b o (by simpa using hb) e) f0 f1 f3 f4 f5
  refine ⟨_,rfl,gX' (s:={ s with heap:=h',toks:=tk }) (n := "range_iterator") ag rfl rfl (by decide) ⟨.int (lo+i),H,I1,⟨t,?_⟩,⟨rfl,rfl⟩,ag,λb hb=>(hf b hb).1⟩⟩
  rw [Int.mul_one]
 done:=by
  intro X hP hw hK hc i aa s U H E I hf st hg
  subst hP hw hK
  obtain ⟨f0,f1,f2,f3,f4,f5⟩:=hf it (by simp)
  exact wpAny_pyNext_range_end (I.ok.hd hc) st (by have:n<=i:=hg;omega) λh' eb=>⟨rfl,I.turned (t':=s.toks) (λb o hb e=>eb b o hb e) f0 f1 f3 f4 f5⟩
 self:=λ_ _ _ _ _ st h=>wpAny_pyIter_rangeiter st h
section
variable {X:Cx}{tg:Expr}
theorem g5' {aa:List (Addr×Obj)}{U:St}{H:Hp}{s:Shared}{R:It->Hp->Prop}{E:Value->Shared->Prop}{lo hi:Int}{t u v:Tok}{tk:Nat} (I:Inv X aa U H s) (h1:-(2 ^ 62)<=lo) (h2:lo < 2 ^ 62) (h3:-(2 ^ 62)<=hi) (h4:hi < 2 ^ 62)
  (q:R (Itr lo (hi - lo).toNat) H):wpAny (model X.prog X.w) X.A (pyIter (.ref s.heap.objs.size)) (PIE X aa U tg R) E { s with heap:=s.heap.push { cls:=.type "range", data:=.fields #[.int lo t,.int hi u,.int 1 v] },toks:=tk }:=by
 refine wpAny_pyIter_range (IsRange.new ..) (small_one h1 h2 h3 h4) ?_
 have I1:Inv X aa U H { s with heap:=s.heap.push { cls:=.type "range", data:=.fields #[.int lo t,.int hi u,.int 1 v] },toks:=tk }:=I.kept λb o e=>get?_push_of_some _ e
 refine ⟨(s.heap.push { cls:=.type "range", data:=.fields #[.int lo t,.int hi u,.int 1 v] }).objs.size,[(s.heap.push { cls:=.type "range", data:=.fields #[.int lo t,.int hi u,.int 1 v] }).objs.size],_,_,H,rfl,
  I1.kept (t':=tk) λb o e=>get?_push_of_some _ e,jr' _ lo (hi - lo).toNat,?_,λb hb=>?_,q⟩
 ·have e1:lo+((0:Nat):Int)*1=lo:=by simp
  have e2:(((hi - lo).toNat:Nat):Int) - ((0:Nat):Int)=rangeSize lo hi 1:=by rw [rangeSize_one];split<;>omega
  show IsRangeIter _ _ (lo+((0:Nat):Int)*1) ((((hi - lo).toNat:Nat):Int) - ((0:Nat):Int)) 1
  rw [e1,e2]
  exact get?_push_size _ rfl
 ·have e:b=(s.heap.push { cls:=.type "range", data:=.fields #[.int lo t,.int hi u,.int 1 v] }).objs.size:=by simpa using hb
  subst e
  exact I1.fpOk (le_refl _) (I1.hok.fresh (le_refl _))
noncomputable def iRng1 (ta:TA):TI:=λU H R=>ta U H λvs H1=>∃ j:Int,vs=[.int j]/\-(2 ^ 62)<=j/\j < 2 ^ 62/\R (Itr 0 j.toNat) H1
noncomputable def iRng2 (ta:TA):TI:=λU H R=>ta U H λvs H1=>∃ i j:Int,vs=[.int i,.int j]/\(-(2 ^ 62)<=i/\i < 2 ^ 62/\-(2 ^ 62)<=j/\j < 2 ^ 62)/\R (Itr i (j - i).toNat) H1
theorem kj' {a:Expr}{ta:TA}{p pos:Pos} (hg:Gl X "range") (hm:X.mg "range"=none) (ha:PA X [a] ta) (hs:starEach [a] X.env=[(false,eval a X.env)]:=by rfl):PI X tg (.Call (.Name "range" p) [a] [] pos) (iRng1 ta):=by
 intro aa s U H R I h
 refine Call_ (aW' I hg hm boot_range (PyProof.Rows.callWith_type1 (thn (ha pos aa s U H _ I h) λus s1 ⟨vs,H1,I1,r1,q1⟩=>?_) hs rfl))
 obtain ⟨j,e,q1,q2,q⟩:=q1
 subst e
 cases r1 with
 | cons r rr =>
  cases rr
  obtain ⟨t,rfl⟩:=r
  exact call_range_1 (g5' I1 (by omega) (by omega) q1 q2 (by simpa using q))
theorem kl' {a b:Expr}{ta:TA}{p pos:Pos} (hg:Gl X "range") (hm:X.mg "range"=none) (ha:PA X [a,b] ta) (hs:starEach [a,b] X.env=[(false,eval a X.env),(false,eval b X.env)]:=by rfl) (bA:starEach [b] X.env=[(false,eval b X.env)]:=by rfl) :
  PI X tg (.Call (.Name "range" p) [a,b] [] pos) (iRng2 ta):=by
 intro aa s U H R I h
 refine Call_ (aW' I hg hm boot_range (PyProof.Rows.callWith_type1 (thn (ha pos aa s U H _ I h) λus s1 ⟨vs,H1,I1,r1,q1⟩=>?_) (by rw [hs,bA]) (by rw [bA];rfl)))
 obtain ⟨i,j,e,⟨q1,q2,q3,q4⟩,q⟩:=q1
 subst e
 cases r1 with
 | cons r rr =>
  cases rr with
  | cons r' rr =>
   cases rr
   obtain ⟨t,rfl⟩:=r
   obtain ⟨t',rfl⟩:=r'
   exact call_range_2 (g5' I1 q1 q2 q3 q4 q)
noncomputable def tFor (wi:TI) (g:TG) (tb:TS):TS:=λD U H=>wi U H λJ H1=>∃ W:Nat->Nat->St->Hp->Prop,(∃ m,W 0 m U H1)/\∀ i m U H,W i m U H →
 (J.stop i H/\D.nx U H)\/(J.go i H/\∃ N:St->Hp->Prop,(∀ aq H',N aq H'->∃ m',m' < m/\W (i+1) m' aq H')/\∀ x H',J.yld i H x H'->g x U H' λaZ H2=>tb { D with nx:=N,ct:=N,bk:=D.nx } aZ H2)
noncomputable def pinsAt (fp:List Addr) (h:Heap):List (Addr×Obj):=fp.filterMap λb=>(h.get? b).map λo=>(b,o)
theorem cn' {fp:List Addr}{h:Heap}{b:Addr}{o:Obj} (hb:b∈fp) (e:h.get? b=some o):(b,o)∈pinsAt fp h:=List.mem_filterMap.mpr ⟨b,hb,by rw [e];rfl⟩
theorem km' {fp:List Addr}{h:Heap}{p:Addr×Obj} (hp:p∈pinsAt fp h):p.1∈fp/\h.get? p.1=some p.2:=by
 obtain ⟨b,hb,e⟩:=List.mem_filterMap.mp hp
 cases q:h.get? b with
 | none=>rw [q] at e;cases e
 | some o =>
  rw [q] at e
  have e':(b,o)=p:=Option.some.inj e
  subst e'
  exact ⟨hb,q⟩
theorem Inv.pinned {aa:List (Addr×Obj)}{U:St}{H:Hp}{s:Shared}{fp:List Addr} (I:Inv X aa U H s) (hf:∀ b∈fp,FpOk X aa H b) (ho:∀ b∈fp,∃ o,s.heap.get? b=some o/\∀ v,o.data≠.cell v):Inv X (aa++pinsAt fp s.heap) U H s :=
 I.pins_of λp hp=>(mem_append.mp hp).elim (λz=>I.pin p (mem_append_right _ z)) λz=>by
  obtain ⟨hb,e⟩:=km' z
  obtain ⟨f0,f1,f2,_⟩:=hf p.1 hb
  obtain ⟨o,e',d⟩:=ho p.1 hb
  rw [e] at e';cases e'
  exact ⟨e,f0,f1,f2,d⟩
theorem Inv.unpinned {aa pl:List (Addr×Obj)}{U:St}{H:Hp}{s:Shared} (I:Inv X (aa++pl) U H s):Inv X aa U H s:=I.pins_of λp hp=>I.pin p (mem_append_right _ (mem_append_left _ hp))
theorem pl' {iter:Expr}{body:List Stmt}{wi:TI}{g:TG}{tb:TS}{pos:Pos} (hp:PassesOwn (model X.prog X.w) X.A X.env X.xe) (hc:X.calm=true) (hi:PI X tg iter wi) (hg:PG X tg g) (hb:PSs X body tb)
  (hs:∀ x,foldedSetIterable iter X.env x=pure x:=by intro _;rfl):PS X (.For tg iter body [] pos) (tFor wi g tb):=by
 intro aa s U H D I h
 refine wpAny_For (thn (hi aa s U H _ I h) λv s1 h1=>thn h1 λii s2 h2=>?_) hs
 obtain ⟨it,fp,tn,J,H2,e,I2,T,bB,f2,W,⟨m0,w0⟩,turn⟩:=h2
 subst e
 -- what stays true of the iterator's objects through the bX
 have cM:∀ {H':Hp},(∀ b∈fp,H' b=none)->∀ b∈fp,FpOk X aa H' b:=λhn b hb=>⟨hn b hb,(f2 b hb).2⟩
 refine codeAny_forLoop_any (λn s'=>∃ i aq H',Inv X aa aq H' s'/\tn i s'.heap/\(∀ b∈fp,H' b=none)/\W i n aq H') ?_ m0 ⟨0,U,H2,I2,bB,λb hb=>(f2 b hb).1,w0⟩
 rintro n s3 ⟨i,fY,H3,I3,cD,mL,w3⟩
 rcases turn i n fY H3 w3 with ⟨stop,qn⟩ | ⟨go,N,hN,step⟩
 ·refine wpAny_passesOwn hp (thn (T.done X rfl rfl rfl hc i aa s3 fY H3 X.xe I3 (cM mL) cD stop) λr s4 ⟨hr,I4⟩=>?_)
  subst hr
  exact wpAny_execs_nil ⟨fY,H3,I4,qn⟩
 ·refine wpAny_passesOwn hp (thn (T.item X rfl rfl rfl hc i aa s3 fY H3 X.xe I3 (cM mL) cD go) λr s4 ⟨u,hr,h4⟩=>?_)
  subst hr
  refine wpAny_passesOwn hp (thn h4 λ_ s5 ⟨x,H5,I5,r5,y5,fF,ik⟩=>?_)
  have qw:=I5.pinned (cM ik) (T.obj _ _ fF)
  refine wpAny_passesOwn hp (thn (hg _ s5 fY H5 x u _ qw r5 (step x H5 y5)) λ_ s6 ⟨qx,H6,I6,q6⟩=>?_)
  refine wpAny_passesOwn hp (thn (hb _ s6 qx H6 _ I6 q6) λf s7 q7=>?_)
  have again:∀ {cN:St}{H7:Hp},Inv X (aa++pinsAt fp s5.heap) cN H7 s7->N cN H7->∃ m,m < n/\∃ i aq H',Inv X aa aq H' s7/\tn i s7.heap/\(∀ b∈fp,H' b=none)/\W i m aq H':=λ{cN H7} I7 n7=>by
   obtain ⟨m',hm,w7⟩:=hN cN H7 n7
   refine ⟨m',hm,i+1,cN,H7,I7.unpinned,T.keep _ _ _ fF λb hb o e=>(I7.pin (b,o) (mem_append_right _ (mem_append_right _ (cn' hb e)))).1,λb hb=>?_,w7⟩
   obtain ⟨o,e,d⟩:=T.obj _ _ fF b hb
   exact (I7.pin (b,o) (mem_append_right _ (mem_append_right _ (cn' hb e)))).2.1
  cases f with
  | next=>obtain ⟨cN,H7,I7,n7⟩:=q7;exact again I7 n7
  | cont=>obtain ⟨cN,H7,I7,n7⟩:=q7;exact again I7 n7
  | brk=>obtain ⟨cN,H7,I7,q7⟩:=q7;exact ⟨cN,H7,I7.unpinned,q7⟩
  | ret v=>obtain ⟨x7,cN,H7,I7,r7,q7⟩:=q7;exact ⟨x7,cN,H7,I7.unpinned,r7,q7⟩
end
abbrev R2:=V->V->Hp->VK->Prop
def OpR (X:Cx) (f:Value->Value->Sem Value) (r:R2):Prop :=
 ∀ (aa:List (Addr×Obj)) (s:Shared) (U:St) (H:Hp) (x y:V) (v u:Value) (Q:VK),Inv X aa U H s->RelV x v->RelV y u->r x y H Q →
  wpAny (model X.prog X.w) X.A (f v u) (EP X aa U Q) X.xe s
def UnR (X:Cx) (f:Value->Sem Value) (r:V->Hp->VK->Prop):Prop :=
 ∀ (aa:List (Addr×Obj)) (s:Shared) (U:St) (H:Hp) (x:V) (v:Value) (Q:VK),Inv X aa U H s->RelV x v->r x H Q →
  wpAny (model X.prog X.w) X.A (f v) (EP X aa U Q) X.xe s
def CallR (X:Cx) (f:Value) (r:List V->Hp->VK->Prop):Prop :=
 ∀ (aa:List (Addr×Obj)) (s:Shared) (U:St) (H:Hp) (xs:List V) (us:List Value) (Q:VK),Inv X aa U H s->Vals xs us->r xs H Q →
  wpAny (model X.prog X.w) X.A (call f us) (EP X aa U Q) X.xe s
def tOp (r:R2) (ta tb:TE):TE:=λU H Q=>ta U H λx H1=>tb U H1 λy H2=>r x y H2 Q
def tUn (r:V->Hp->VK->Prop) (ta:TE):TE:=λU H Q=>ta U H λx H1=>r x H1 Q
noncomputable def rI (C:Int->Int->Prop) (g:Int->Int->V):R2:=λx y H Q=>∃ i j,x=.int i/\y=.int j/\C i j/\Q (g i j) H
def rI0 (g:Int->Int->V):R2:=λx y H Q=>∃ i j,x=.int i/\y=.int j/\Q (g i j) H
def rU (g:Int->V):V->Hp->VK->Prop:=λx H Q=>∃ i,x=.int i/\Q (g i) H
section
variable {X:Cx}{a b c:Expr}{ta tb tc:TE}{pos:Pos}
theorem binT (ha:PE X a ta) (hb:PE X b tb){aa:List (Addr×Obj)}{s:Shared}{U:St}{H:Hp}{R:V->V->Hp->Prop} (I:Inv X aa U H s)
  (h:ta U H λx H1=>tb U H1 λy H2=>R x y H2){Q:Value->Shared->Prop}{f:Value->Value->Sem Value}
  (hf:∀ v u s2 x y H2,Inv X aa U H2 s2->RelV x v->RelV y u->R x y H2->wpAny (model X.prog X.w) X.A (f v u) Q X.xe s2) :
  wpAny (model X.prog X.w) X.A (eval a X.env) (λv au=>wpAny (model X.prog X.w) X.A (eval b X.env) (λu cL=>wpAny (model X.prog X.w) X.A (f v u) Q X.xe cL) X.xe au) X.xe s:=by
 refine thn (ha aa s U H _ I h) λv s1 ⟨x,H1,I1,r1,q1⟩=>?_
 refine thn (hb aa s1 U H1 _ I1 q1) λu s2 ⟨y,H2,I2,r2,q2⟩=>?_
 exact hf v u s2 x y H2 I2 r1 r2 q2
theorem nl' {op:Operator}{r:R2} (ho:OpR X (binaryOp op) r) (ha:PE X a ta) (hb:PE X b tb):PE X (.BinOp a op b pos) (tOp r ta tb):=by
 intro aa s U H Q I h
 exact wpAny_BinOp (binT ha hb I h λv u s2 x y H2 I2 rx ry q=>ho aa s2 U H2 x y v u Q I2 rx ry q)
theorem qs' {op:UnaryOp}{r:V->Hp->VK->Prop} (ho:UnR X (unaryOp op) r) (ha:PE X a ta):PE X (.UnaryOp op a pos) (tUn r ta):=by
 intro aa s U H Q I h
 exact UnaryOp_ (thn (ha aa s U H _ I h) λv s1 ⟨x,H1,I1,r1,q1⟩=>ho aa s1 U H1 x v Q I1 r1 q1)
theorem opI {f:Value->Value->Sem Value}{C:Int->Int->Prop}{g:Int->Int->Int}
  (rule:∀ (i j:Int) (t u:Tok) (s:Shared) (Q:Value->Shared->Prop) (E:Value->Shared->Prop),C i j->Q (.int (g i j) s.toks) { s with toks:=s.toks+1 }->wpAny (model X.prog X.w) X.A (f (.int i t) (.int j u)) Q E s) :
  OpR X f (rI C λi j=>.int (g i j)):=by
 intro aa s U H x y v u Q I rx ry h
 obtain ⟨i,j,rfl,rfl,hc,q⟩:=h
 obtain ⟨t,rfl⟩:=rx
 obtain ⟨t',rfl⟩:=ry
 exact rule i j t t' s _ _ hc ⟨.int (g i j),H,I.tok _,⟨_,rfl⟩,q⟩
theorem opI0 {f:Value->Value->Sem Value}{g:Int->Int->Int}
  (rule:∀ (i j:Int) (t u:Tok) (s:Shared) (Q:Value->Shared->Prop) (E:Value->Shared->Prop),Q (.int (g i j) s.toks) { s with toks:=s.toks+1 }->wpAny (model X.prog X.w) X.A (f (.int i t) (.int j u)) Q E s) :
  OpR X f (rI0 λi j=>.int (g i j)):=by
 intro aa s U H x y v u Q I rx ry h
 obtain ⟨i,j,rfl,rfl,q⟩:=h
 obtain ⟨t,rfl⟩:=rx
 obtain ⟨t',rfl⟩:=ry
 exact rule i j t t' s _ _ ⟨.int (g i j),H,I.tok _,⟨_,rfl⟩,q⟩
theorem opB0 {f:Value->Value->Sem Value}{g:Int->Int->Bool}
  (rule:∀ (i j:Int) (t u:Tok) (s:Shared) (Q:Value->Shared->Prop) (E:Value->Shared->Prop),Q (.bool (g i j)) s->wpAny (model X.prog X.w) X.A (f (.int i t) (.int j u)) Q E s) :
  OpR X f (rI0 λi j=>.bl (g i j)):=by
 intro aa s U H x y v u Q I rx ry h
 obtain ⟨i,j,rfl,rfl,q⟩:=h
 obtain ⟨t,rfl⟩:=rx
 obtain ⟨t',rfl⟩:=ry
 exact rule i j t t' s _ _ ⟨.bl (g i j),H,I,rfl,q⟩
def CPow (i j:Int):Prop:=0<=j/\j<=1000000/\i.natAbs < 2 ^ 64
def CMul (i j:Int):Prop:=(-(2 ^ 64) < i/\i < 2 ^ 64)\/(-(2 ^ 64) < j/\j < 2 ^ 64)
theorem CMul.ok {i j:Int} (h:CMul i j):IntMulOk i j:=by
 rcases h with ⟨h1,h2⟩ | ⟨h1,h2⟩
 ·exact .of_left (intBits_le_64 h1 h2)
 ·exact .of_right (intBits_le_64 h1 h2)
theorem pm':OpR X (binaryOp .Add) (rI0 λi j=>.int (i+j)):=opI0 λ_ _ _ _ _ _ _ q=>add_int q
theorem pn':OpR X (binaryOp .Sub) (rI0 λi j=>.int (i - j)):=opI0 λ_ _ _ _ _ _ _ q=>sub_int q
theorem po':OpR X (binaryOp .Mult) (rI CMul λi j=>.int (i*j)):=opI λ_ _ _ _ _ _ _ hc q=>mul_int q hc.ok
theorem pp':OpR X (binaryOp .Mod) (rI (λ_ j=>0 < j) λi j=>.int (i % j)):=opI λi j _ _ _ _ _ hc q=>by
 have h1:(0:Int) < j:=hc
 exact mod_int' (by omega) (by rw [Int.fmod_eq_emod_of_nonneg i (by omega)];exact q)
theorem pq':OpR X (binaryOp .Pow) (rI CPow λi j=>.int (i ^ j.toNat)):=opI λ_ _ _ _ _ _ _ hc q=>pow_int_small hc.1 hc.2.1 hc.2.2 q
theorem unI {f:Value->Sem Value}{g:Int->Int}
  (rule:∀ (i:Int) (t:Tok) (s:Shared) (Q:Value->Shared->Prop) (E:Value->Shared->Prop),Q (.int (g i) s.toks) { s with toks:=s.toks+1 }->wpAny (model X.prog X.w) X.A (f (.int i t)) Q E s) :
  UnR X f (rU λi=>.int (g i)):=by
 intro aa s U H x v Q I rx h
 obtain ⟨i,rfl,q⟩:=h
 obtain ⟨t,rfl⟩:=rx
 exact rule i t s _ _ ⟨.int (g i),H,I.tok _,⟨_,rfl⟩,q⟩
theorem pr':UnR X (unaryOp .USub) (rU λi=>.int (-i)):=unI λ_ _ _ _ _ q=>neg_int q
end
section
variable {X:Cx}{a b c:Expr}{ta tb tc:TE}{pos:Pos}
theorem js':OpR X (compareOp .Lt) (rI0 λi j=>.bl (decide (i < j))):=opB0 λ_ _ _ _ _ _ _ q=>lt_int q
theorem qt':OpR X (compareOp .LtE) (rI0 λi j=>.bl (decide (i<=j))):=opB0 λ_ _ _ _ _ _ _ q=>le_int q
theorem qu':OpR X (compareOp .Gt) (rI0 λi j=>.bl (decide (j < i))):=opB0 λ_ _ _ _ _ _ _ q=>gt_int q
theorem nm':OpR X (compareOp .GtE) (rI0 λi j=>.bl (decide (j<=i))):=opB0 λ_ _ _ _ _ _ _ q=>ge_int q
theorem OpR.or {f:Value->Value->Sem Value}{r r':R2} (h:OpR X f r) (h':OpR X f r'):OpR X f (λx y H Q=>r x y H Q\/r' x y H Q):=by
 intro aa s U H x y v u Q I rx ry q
 rcases q with q | q
 ·exact h aa s U H x y v u Q I rx ry q
 ·exact h' aa s U H x y v u Q I rx ry q
theorem nomark (b:Expr){op:CmpOp} (h:op≠.In:=by decide) (h2:op≠.NotIn:=by decide):behindInMarks op b=false:=by
 have e1:(op == CmpOp.In)=false:=by cases op<;>first | rfl | exact absurd rfl h
 have e2:(op == CmpOp.NotIn)=false:=by cases op<;>first | rfl | exact absurd rfl h2
 cases b<;>simp [behindInMarks,e1,e2]
theorem nP' {op:CmpOp}{r:R2} (ho:OpR X (compareOp op) r) (ha:PE X a ta) (hb:PE X b tb) (hm:behindInMarks op b=false):PE X (.Compare a [op] [b] pos) (tOp r ta tb):=by
 intro aa s U H Q I h
 exact wpAny_Compare1 (binT ha hb I h λv u s2 x y H2 I2 rx ry q=>ho aa s2 U H2 x y v u Q I2 rx ry q) hm
def tTest (t:TE):TT:=λU H Q=>t U H λx H'=>∃ k,x=.bl k/\Q k H'
theorem iJ' {op:CmpOp}{r:R2} (ho:OpR X (compareOp op) r) (ha:PE X a ta) (hb:PE X b tb) (hm:behindInMarks op b=false):PT X (.Compare a [op] [b] pos) (tTest (tOp r ta tb)):=by
 intro aa s U H Q I h
 refine wpAny_isTrue_Compare1 (thn (ha aa s U H _ I h) λv s1 ⟨x,H1,I1,r1,q1⟩=>thn (hb aa s1 U H1 _ I1 q1) λu s2 ⟨y,H2,I2,r2,q2⟩ =>
  thn (ho aa s2 U H2 x y v u _ I2 r1 r2 q2) λc s3 ⟨z,H3,I3,r3,k,e,q3⟩=>?_) hm
 subst e
 cases r3
 exact wpAny_truthy_bool ⟨H3,I3,q3⟩
theorem line63:(sizeLine:Nat) < 2 ^ 63:=by rw [sizeLine_eq];decide
theorem jt':OpR X (binaryOp .Add) (λx y H Q=>∃ i j,x=.str i/\y=.str j/\i.length+j.length<=sizeLine/\Q (.str (i++j)) H):=by
 intro aa s U H x y v u Q I rx ry h
 obtain ⟨i,j,rfl,rfl,hz,q⟩:=h
 obtain ⟨t,rfl⟩:=rx
 obtain ⟨t',rfl⟩:=ry
 exact add_str (λt' tk=>⟨.str (i++j),H,I.tok _,⟨_,rfl⟩,q⟩) hz
theorem vals1 {x:V}{us:List Value} (r:Vals [x] us):∃ u,us=[u]/\RelV x u:=by
 cases r with
 | cons r1 r2=>cases r2;exact ⟨_,rfl,r1⟩
theorem vals2 {x y:V}{us:List Value} (r:Vals [x,y] us):∃ u w',us=[u,w']/\RelV x u/\RelV y w':=by
 cases r with
 | cons r1 r2 =>
  cases r2 with
  | cons r3 r4=>cases r4;exact ⟨_,_,rfl,r1,r3⟩
theorem kn' (hc:X.calm=true):CallR X (.builtin "min") (λxs H Q=>∃ i j,xs=[.int i,.int j]/\Q (.int (if j < i then j else i)) H):=by
 intro aa s U H xs us Q I r h
 obtain ⟨i,j,rfl,q⟩:=h
 obtain ⟨u,w',rfl,⟨t,rfl⟩,⟨t',rfl⟩⟩:=vals2 r
 refine min_two_ints (I.ok.hd hc) λh' tk k=>⟨_,H,I.kept k,?_,q⟩
 by_cases hj:j < i
 ·rw [if_pos hj,if_pos hj];exact ⟨_,rfl⟩
 ·rw [if_neg hj,if_neg hj];exact ⟨_,rfl⟩
end
structure ObjM (h:Heap) (x dx C:Addr) (mA:Str->Option Value):Prop where
 obj:h.get? x=some (instObj C dx)
 ns:h.Ns1 dx mA
 ne:dx≠x
structure Cls (K:PySem.W.Frag) (C:Addr):Prop where
 pg:PySem.W.plainGet K C Str.empty=true
 hd:PySem.W.hasDictIn K C=true
 po:PySem.W.plainOver K C=true
 sa:findIn K (.ref C) "__setattr__"=some (some (.builtin "object.__setattr__"))
structure Con (K:PySem.W.Frag) (C:Addr) (f:Str) (v:V) (u:Value):Prop where
 at_:findIn K (.ref C) f=some (some u)
 rel:RelV v u
 get:specialIn K u "__get__"=some none
 cp:PySem.W.copiedNames.contains f=false
structure Meth (K:PySem.W.Frag) (C:Addr) (m:Str) (f:Addr):Prop where
 at_:findIn K (.ref C) m=some (some (.ref f))
 fn:isFn K (.ref f)=true
 kp:keepIn K (.ref f)=true
section
variable {X:Cx}{aa:List (Addr×Obj)}{U:St}{H:Hp}{s:Shared}{A:Around}{E:Value->Shared->Prop}{Q:Value->Shared->Prop}{c:Value}{b:Bool}
inductive TyOf (K:PySem.W.Frag) (H:Hp):V->Value->Prop where
 | non:TyOf K H .non (.type "NoneType")
 | bl (x:Bool):TyOf K H (.bl x) (.type "bool")
 | int (i:Int):TyOf K H (.int i) (.type "int")
 | str (x:Str):TyOf K H (.str x) (.type "str")
 | flt (x:UInt64):TyOf K H (.flt x) (.type "float")
 | lst {a:Addr}{xs:List V} (e:H a=some (.lst xs)):TyOf K H (.ref a) (.type "list")
 | frz {a:Addr}{o:Obj}{xs:List V} (e:H a=some (.frz o (.lst xs))):TyOf K H (.ref a) (.type "list")
 | tup {a:Addr}{xs:List V} (e:H a=some (.tup xs)):TyOf K H (.ref a) (.type "tuple")
 | dK {a:Addr}{ah:List (Key×V)} (e:H a=some (.dK ah)):TyOf K H (.ref a) (.type "dict")
 | dT {a:Addr}{ah:List (List Key×V)} (e:H a=some (.dT ah)):TyOf K H (.ref a) (.type "dict")
 | ins {a C dx:Addr}{fs:List (Str×V)} (e:H a=some (.ins C dx fs)) (cl:Cls K C) (ha:findIn K (.ref C) "__class__"=some (some (.builtin "object.__class__")))
   (hn:specialIn K (.builtin "object.__class__") "__get__"=some (some (.builtin "getset_descriptor.__get__"))) (vf:PySem.W.takesIn K (.builtin "object.__class__")=some true)
   (hm:PySem.W.mroIn K C (.type "object")=some true):TyOf K H (.ref a) (.ref C)
end
structure Room (k:Nat) (A:Around):Prop where
 hd:A.handled=none
 dp:A.depth+3*k+5 < recursionLimit
 un:A.units+16*k+200 < cLine
 gd:A.guards=some []
theorem Room.mono {j k:Nat}{A:Around} (r:Room k A) (h:j<=k):Room j A:=⟨r.hd,by have:=r.dp;omega,by have:=r.un;omega,r.gd⟩
theorem Room.deeper {k:Nat}{A:Around} (r:Room (k+1) A) (env:Env):Room k (A.deeper env) :=
 ⟨r.hd,by have:=r.dp;show A.depth+1+3*k+5 < _;omega,by have:=r.un;show A.units+3+16*k+200 < _;omega,r.gd⟩
theorem Room.in1 {k:Nat}{A:Around} (r:Room (k+1) A):Room k A.in1 :=
 ⟨r.hd,by have:=r.dp;show A.depth+3*k+5 < _;omega,by have:=r.un;show A.units+1+16*k+200 < _;omega,r.gd⟩
theorem Room.depth {k:Nat}{A:Around} (r:Room k A):A.depth < recursionLimit:=by have:=r.dp;omega
theorem Room.units {k:Nat}{A:Around} (r:Room k A):A.units+64 < cLine:=by have:=r.un;omega
def tNil:TA:=λ_ H Q=>Q [] H
def tCons (ta:TE) (tr:TA):TA:=λU H Q=>ta U H λx H1=>tr U H1 λxs H2=>Q (x::xs) H2
section
variable {X:Cx}{e:Expr}{es:List Expr}{te:TE}{t:TA}{pos:Pos}
theorem dM':PA X [] tNil:=λ_ _ _ _ H Q I h=>Calls.spliced_nil ⟨[],H,I,.nil,h⟩
theorem bY' (ha:PE X e te) (hr:PA X es t) (hs:starEach (e::es) X.env=(false,eval e X.env)::starEach es X.env:=by rfl):PA X (e::es) (tCons te t):=by
 intro pos aa s U H Q I h
 rw [hs]
 show wpAny _ _ (spliced ((false,eval e X.env)::backTo pos (starEach es X.env))) _ _ s
 refine Calls.spliced_cons (thn (ha aa s U H _ I h) λu s1 ⟨x,H1,I1,r1,q1⟩=>?_)
 exact thn (hr pos aa s1 U H1 _ I1 q1) λus s2 ⟨xs,H2,I2,r2,q2⟩=>⟨x::xs,H2,I2,.cons r1 r2,q2⟩
noncomputable def tTup (t:TA):TE:=λU H Q=>t U H λxs H1=>xs.length<=sizeLine/\∀ p,H1 p=none->Q (.ref p) (upd H1 p (.tup xs))
noncomputable def tLst (t:TA):TE:=λU H Q=>t U H λxs H1=>xs.length<=sizeLine/\∀ p,H1 p=none->Q (.ref p) (upd H1 p (.lst xs))
theorem pt' {x1} (h:PA X es t):PE X (.Tuple es x1 pos) (tTup t):=by
 intro aa s U H Q I hq
 refine wpAny_Tuple_spliced (thn (h pos aa s U H _ I hq) λus s1 ⟨xs,H1,I1,r,z,q⟩=>⟨by rw [← r.length];exact z,?_⟩)
 have hf:H1 s1.heap.objs.size=none:=I1.hok.fresh (le_refl _)
 refine ⟨.ref s1.heap.objs.size,upd H1 s1.heap.objs.size (.tup xs),I1.laid (t':=s1.toks) (λb u e=>get?_push_of_some _ e) (le_refl _) ?_,rfl,q _ hf⟩
 exact ⟨z,us,r,⟨_,get?_push_size _ rfl,rfl,_,rfl⟩⟩
theorem pu' (h:PA X es t):PE X (.List es pos) (tLst t):=by
 intro aa s U H Q I hq
 refine wpAny_List_spliced (thn (h pos aa s U H _ I hq) λus s1 ⟨xs,H1,I1,r,z,q⟩=>⟨by rw [← r.length];exact z,?_⟩)
 have hf:H1 s1.heap.objs.size=none:=I1.hok.fresh (le_refl _)
 refine ⟨.ref s1.heap.objs.size,upd H1 s1.heap.objs.size (.lst xs),I1.laid (t':=s1.toks) (λb u e=>get?_push_of_some _ e) (le_refl _) ?_,rfl,q _ hf⟩
 exact ⟨z,us,0,r,get?_push_size _ rfl⟩
end
abbrev Sp:=List V->Hp->VK->XK->Prop
abbrev CXT:=List Env->Hp->Shared->XK->Value->Shared->Prop
structure Env0 (P:Program) (w:World) (K:PySem.W.Frag) (mg:Str->Option Value) (base:Heap) (A:Around) (outer:List Env) (s:Shared) (H:Hp):Prop where
 frames:A.frames=some outer
 mod:Mod K mg base
 bs:∀ b o,base.get? b=some o->s.heap.get? b=some o/\H b=none
 bsz:base.objs.size<=s.heap.objs.size
 funs:s.heap.FunFrames base outer
 frf:∀ b∈frs outer,H b=none
 hok:HOk P w H s.heap
 bare:AllBare s.gens
 tb:TabsOk K H
def CE (outer:List Env) (P:Program) (w:World) (H:Hp) (s:Shared) (Q:VK) (u:Value) (s':Shared):Prop :=
 ∃ v H',s'.os=s.os/\AllBare s'.gens/\Un (frs outer) [] H H' s.heap s'.heap/\HOk P w H' s'.heap/\RelV v u/\Q v H'
def CR (CX:CXT) (outer:List Env) (P:Program) (w:World) (H:Hp) (s:Shared) (Q:VK) (E:XK) (r:Result) (s':Shared):Prop :=
 match r with
 | .ok (.ret u)=>CE outer P w H s Q u s'
 | .ok _=>False
 | .error e=>CX outer H s E e s'
structure FnOk (P:Program) (w:World) (K:PySem.W.Frag) (mg:Str->Option Value) (base:Heap) (CX:CXT) (k:Nat) (f:Addr) (fd:FuncData) (ps:List Str) (sp:Sp):Prop where
 len:∀ vs H Q E,sp vs H Q E->vs.length=ps.length
 run:∀ (A:Around) (outer:List Env) (s:Shared) (H:Hp) (args:Args) (us:List Value) (vs:List V) (Q:VK) (E:XK),Room k A->Env0 P w K mg base A outer s H->BindsTo s fd args (ps.zip us)->Vals vs us->sp vs H Q E →
  codeAny (model P w) A (.call (.ref f) args) (CR CX outer P w H s Q E) s
theorem Env0.in1 {P:Program}{w:World}{K:PySem.W.Frag}{mg:Str->Option Value}{base:Heap}{A:Around}{outer:List Env}{s:Shared}{H:Hp} (e:Env0 P w K mg base A outer s H) :
  Env0 P w K mg base A.in1 outer s H:=⟨e.frames,e.mod,e.bs,e.bsz,e.funs,e.frf,e.hok,e.bare,e.tb⟩
section
variable {X:Cx}{aa:List (Addr×Obj)}{U:St}{H:Hp}{s s':Shared}
theorem Inv.env0 (I:Inv X aa U H s):Env0 X.prog X.w X.K X.mg X.base X.A X.stack s H :=
 ⟨I.ok.frames,I.ok.mod,I.bs,le_trans I.ok.bsz I.sz,I.stack,I.stkFree,I.hok,I.bare,λc P h=>I.base.tbls P _ (I.ok.tb c P h)⟩
theorem Inv.after {Q:VK}{u:Value} (I:Inv X aa U H s) (h:CE X.stack X.prog X.w H s Q u s'):EP X aa U Q u s':=by
 obtain ⟨v,H',os,bare,un,hok,r,q⟩:=h
 obtain ⟨hh,g,d,t,et⟩:=s'
 obtain rfl:et=s.os:=os
 exact ⟨v,H',I.call (h':=hh) (g':=g) (d':=d) (t':=t) (ch:=[]) un hok bare (λb z=>absurd z (by simp)),r,q⟩
end
noncomputable def tCall (sp:Sp) (dQ:List V) (E:XK) (t:TA):TE:=λU H Q=>t U H λvs H1=>sp (vs++dQ) H1 Q E
def Binds (K:PySem.W.Frag) (fd:FuncData) (ps:List Str) (ds:List Value):Prop :=
 ∀ (s:Shared) (us:List Value),K.In s.heap->(us++ds).length=ps.length->BindsTo s fd ⟨us,[]⟩ (ps.zip (us++ds))
theorem Binds.all {K:PySem.W.Frag}{fd:FuncData}{ps:List Str} (h:∀ us:List Value,us.length=ps.length->bindArgs fd ⟨us,[]⟩=pure (ps.zip us)):Binds K fd ps []:=λs us _ hl=>by
 rw [append_nil] at hl ⊢
 exact .of_eq (h us hl)
def Passes (CX:CXT) (X:Cx) (E:XK):Prop:=∀ (aa:List (Addr×Obj)) (U:St) (H:Hp) (s:Shared) (e:Value) (s':Shared),Inv X aa U H s->CX X.stack H s E e s'->X.xe e s'
section
variable {X:Cx}{CX:CXT}{k:Nat}{f C:Addr}{fd:FuncData}{ps:List Str}{sp:Sp}{dQ:List V}{ds:List Value}{E:XK}{x m:Str}{p pos ba:Pos}{e o:Expr}{es:List Expr}{ta:TE}{t:TA}
theorem pv' {aa:List (Addr×Obj)}{U:St}{H:Hp}{s:Shared}{Q:VK}{us:List Value}{vs:List V} (F:FnOk X.prog X.w X.K X.mg X.base CX k f fd ps sp) (hr:Room k X.A) (hb:Binds X.K fd ps ds) (hd:Vals dQ ds) (hx:Passes CX X E)
  (I:Inv X aa U H s) (r:Vals vs us) (h:sp (vs++dQ) H Q E):wpAny (model X.prog X.w) X.A (call (.ref f) us) (EP X aa U Q) X.xe s:=by
 have r2:Vals (vs++dQ) (us++ds):=r.append hd
 have hl:(us++ds).length=ps.length:=by rw [← r2.length];exact F.len _ _ _ _ h
 refine wpAny_call (codeAny_mono (F.run X.A X.stack s H ⟨us,[]⟩ (us++ds) (vs++dQ) Q E hr I.env0 (hb s us I.kIn hl) r2 h) λr s' hq=>?_)
 cases r with
 | error e=>exact hx aa U H s e s' I hq
 | ok fl =>
  cases fl with
  | ret u=>exact I.after hq
  | next=>exact elim hq
  | brk=>exact elim hq
  | cont=>exact elim hq
theorem da' (F:FnOk X.prog X.w X.K X.mg X.base CX k f fd ps sp) (hr:Room k X.A) (hg:Gl X x) (hm:X.mg x=some (.ref f)) (hk:keepIn X.K (.ref f)=true) (hb:Binds X.K fd ps ds) (hd:Vals dQ ds) (hx:Passes CX X E)
  (ha:PA X (e::es) t) (aS:(x == ("__debug__":Str))=false:=by decide) (he:starEach (e::es) X.env=(false,eval e X.env)::starEach es X.env:=by rfl) (aA:(backTo pos (starEach es X.env)).any (·.1)=false:=by rfl) :
  PE X (.Call (.Name x p) (e::es) [] pos) (tCall sp dQ E t):=by
 intro aa s U H Q I h
 refine wpAny_Call_Name_kw (nJ' I hg hm ?_ aS)
 refine PySem.W.callWith_K (h₀:=X.base) I.ok.mod.kin hk (thn (ha pos aa s U H _ I h) λus s1 ⟨vs,H1,I1,r,q⟩=>⟨I1.kIn,?_⟩) he aA
 exact pv' F hr hb hd hx I1 r q
structure Mk (K:PySem.W.Frag) (C f:Addr):Prop where
 makes:PySem.W.makesIn K C=true
 init:findIn K (.ref C) "__init__"=some (some (.ref f))
 fn:isFn K (.ref f)=true
 kp:keepIn K (.ref C)=true
end
section
variable {X:Cx}{CX:CXT}{k:Nat}{f C:Addr}{fd:FuncData}{ps ks:List Str}{sp:Sp}{E:XK}{x m:Str}{p pos ba u7:Pos}{e o:Expr}{es:List Expr}{vg:List Keyword}{te ta:TE}{t tk:TA}{nm:Option Str}
structure KBinds (K:PySem.W.Frag) (fd:FuncData) (ps ks:List Str) (g:List Value->List Value->List Value) (gV:List V->List V->List V):Prop where
 to:∀ (s:Shared) (us ws:List Value),K.In s.heap->(g us ws).length=ps.length->BindsTo s fd ⟨us,ks.zip ws⟩ (ps.zip (g us ws))
 rel:∀ {vs:List V}{us:List Value}{zs:List V}{ws:List Value},Vals vs us->Vals zs ws->Vals (gV vs zs) (g us ws)
variable {g:List Value->List Value->List Value}{gV:List V->List V->List V}
end
structure FnScope (N P:List Str) (sc:Scope):Prop where
 kind:sc.kind=.function
 co:sc.isCoroutine=false
 gen:sc.isGenerator=false
 nd:N.Nodup
 pre:N.take P.length=P
 par:∀ x∈P,sc.names.lookup x=some .local\/sc.names.lookup x=some .cell
 nofree:∀ y∈sc.names,y.2≠.free
theorem gc' {kindOf:Str->Option NameKind}{x:Str}:∀ {binds:List (Str×Value)}{m:Str->Option Value},(∀ v,(x,v)∉binds)->bindL kindOf binds m x=m x
 | [],_,_=>rfl
 | (n,v)::r,m,h=>by
  unfold bindL
  rw [gc' λw hw=>h w (mem_cons_of_mem _ hw)]
  split
  ·have:x≠n:=by rintro rfl;exact h v mem_cons_self
   simp [this]
  ·rfl
theorem gd' {kindOf:Str->Option NameKind}{x:Str}:∀ {binds:List (Str×Value)}{m:Str->Option Value},(∀ v,(x,v)∉binds)->bindC kindOf binds m x=m x
 | [],_,_=>rfl
 | (n,v)::r,m,h=>by
  unfold bindC
  rw [gd' λw hw=>h w (mem_cons_of_mem _ hw)]
  split
  ·rfl
  ·have:x≠n:=by rintro rfl;exact h v mem_cons_self
   simp [this]
theorem ge' {kindOf:Str->Option NameKind}{x:Str}{v:Value}:∀ {P:List Str}{vs:List Value}{i:Nat}{m:Str->Option Value},P.Nodup->P[i]?=some x->vs[i]?=some v->kindOf x=some .local →
  bindL kindOf (P.zip vs) m x=some v
 | [],_,_,_,_,h,_,_=>by simp at h
 | _::_,[],_,_,_,_,h,_=>by simp at h
 | p::P,w::vs,0,m,nd,h1,h2,hk=>by
  simp at h1 h2;subst h1;subst h2
  show bindL kindOf ((p,w)::P.zip vs) m p=_
  unfold bindL
  rw [gc' λv hv=>(nodup_cons.mp nd).1 (of_mem_zip hv).1,if_pos hk]
  simp
 | p::P,w::vs,i+1,m,nd,h1,h2,hk=>by
  show bindL kindOf ((p,w)::P.zip vs) m x=_
  unfold bindL
  exact ge' (i:=i) (nodup_cons.mp nd).2 (by simpa using h1) (by simpa using h2) hk
theorem gf' {kindOf:Str->Option NameKind}{x:Str}{v:Value}:∀ {P:List Str}{vs:List Value}{i:Nat}{m:Str->Option Value},P.Nodup->P[i]?=some x->vs[i]?=some v->kindOf x≠some .local →
  bindC kindOf (P.zip vs) m x=some v
 | [],_,_,_,_,h,_,_=>by simp at h
 | _::_,[],_,_,_,_,h,_=>by simp at h
 | p::P,w::vs,0,m,nd,h1,h2,hk=>by
  simp at h1 h2;subst h1;subst h2
  show bindC kindOf ((p,w)::P.zip vs) m p=_
  unfold bindC
  rw [gd' λv hv=>(nodup_cons.mp nd).1 (of_mem_zip hv).1,if_neg hk]
  simp
 | p::P,w::vs,i+1,m,nd,h1,h2,hk=>by
  show bindC kindOf ((p,w)::P.zip vs) m x=_
  unfold bindC
  exact gf' (i:=i) (nodup_cons.mp nd).2 (by simpa using h1) (by simpa using h2) hk
noncomputable def start (N:List Str) (vs:List V):St:=vs.map some++replicate (N.length - vs.length) none
noncomputable def cxOf (CX:CXT) (P:Program) (w:World) (K:PySem.W.Frag) (mg:Str->Option Value) (base:Heap) (N:List Str) (qual:Str) (scope:Scope) (f:Addr) (cd:Value) (A:Around) (outer:List Env) (s:Shared) (H:Hp) (E:XK):Cx where
 prog:=P
 w:=w
 K:=K
 mg:=mg
 base:=base
 A:=A.deeper (envOfC qual scope s.heap.objs.size f cd)
 N:=N
 s₀:=s
 H₀:=H
 env:=envOfC qual scope s.heap.objs.size f cd
 outer:=outer
 stack:=envOfC qual scope s.heap.objs.size f cd::outer
 ex:=[]
 calm:=true
 fn:=λ_=>true
 pn:=[]
 xe:=λe s'=>wpAny (model P w) (A.deeper (envOfC qual scope s.heap.objs.size f cd)) (leaving (envOfC qual scope s.heap.objs.size f cd) e) (λ_ fG=>CX outer H s E e fG) (λe' fG=>CX outer H s E e' fG) s'
theorem g6' {sc:Scope}{n:Nat}{x:Str} (h:sc.names.lookup x=some .cell):∃ c,(cellsFrom n sc.names []).lookup x=some c:=by
 have q:=PySem.W.cellsFrom_some sc.names n [] (.inl h)
 exact Option.isSome_iff_exists.mp q
theorem ko' {CX:CXT}{P:Program}{w:World}{K:PySem.W.Frag}{mg:Str->Option Value}{base:Heap}{N ps:List Str}{qual:Str}{scope:Scope}{f:Addr}{cd:Value}{A:Around}{outer:List Env}{s s1:Shared}{H:Hp}{E:XK}{us:List Value}{vs:List V}
  (S:FnScope N ps scope) (hd:A.handled=none) (e0:Env0 P w K mg base A outer s H) (hl:vs.length=ps.length) (r:Vals vs us)
  (x:InCallC s s.heap.objs.size (bindL (envOfC qual scope s.heap.objs.size f cd).kindOf (ps.zip us) λ_=>none) (cellsFrom (s.heap.objs.size+1) scope.names []) (bindC (envOfC qual scope s.heap.objs.size f cd).kindOf (ps.zip us) λ_=>none) s1) :
  Inv (cxOf CX P w K mg base N qual scope f cd A outer s H E) [] (start N vs) H s1:=by
 have aA:ps.length<=N.length:=by have:=congrArg length S.pre;rw [length_take] at this;omega
 obtain ⟨h1,tk,rfl,hk⟩:=x.done
 have jL:∀ b:Addr,b∉(cxOf CX P w K mg base N qual scope f cd A outer s H E).ex:=λb z=>absurd (show b∈([]:List Addr) from z) (by simp)
 refine ⟨⟨e0.mod,S.kind,rfl,rfl,le_refl _,λy z c h1 h2=>?_,λy hy=>?_,λy c _ h=>?_,λ_=>hd,Around.frames_deeper e0.frames,.inr ⟨rfl,rfl⟩,λb z=>absurd z (jL b),e0.bs,e0.bsz,λb _ _=>jL b,λb z=>absurd z (jL b),e0.funs,e0.frf,e0.tb⟩,
  rfl,e0.bare,Un.kept hk,⟨_,x.toInCall.ns,λi y v h1 h2 h3=>?_⟩,λy c h=>⟨_,x.cell y c h⟩,e0.hok.fresh (le_refl _),λy c h=>?_,λp hp=>absurd (show p∈([]:List (Addr×Obj)) from hp) (by simp),e0.hok.kept hk,?_⟩
 ·exact name_of_addr x.apart (PySem.mem_of_lookup h1) (PySem.mem_of_lookup h2)
 ·have hy:scope.names.lookup y=some .cell\/scope.names.lookup y=some .free:=hy
  rcases hy with hy | hy
  ·exact g6' hy
  ·exact absurd rfl (S.nofree _ (PySem.mem_of_lookup hy))
 ·exact le_of_lt (x.above y c (PySem.mem_of_lookup h))
 ·have hi:i < vs.length:=by
   unfold start at h2
   by_cases hi:i < vs.length
   ·exact hi
   ·rw [getElem?_append_right (by simpa using hi)] at h2
    rw [List.getElem?_replicate] at h2
    split at h2<;>cases h2
  have ha:vs[i]?=some v:=by
   unfold start at h2
   rw [getElem?_append_left (by simpa using hi),getElem?_map] at h2
   cases e:vs[i]? with
   | none=>rw [e] at h2;cases h2
   | some a=>rw [e] at h2;cases h2;rfl
  obtain ⟨u,hu,rv⟩:=r.get ha
  have hp:ps[i]?=some y:=by
   rw [← S.pre,List.getElem?_take_of_lt (by omega)];exact h1
  have mN:ps.Nodup:=by rw [← S.pre];exact S.nd.sublist (take_sublist _ _)
  refine ⟨u,rv,?_⟩
  rcases S.par y (mem_of_getElem? hp) with k | k
  ·exact .inl ⟨k,ge' mN hp hu k⟩
  ·obtain ⟨c,e⟩:=g6' (n:=s.heap.objs.size+1) k
   refine .inr ⟨.inl k,c,e,?_⟩
   have q:=x.cell y c e
   rw [gf' mN hp hu (by show scope.names.lookup y≠_;rw [k];decide)] at q
   exact q
 ·exact e0.hok.fresh (le_of_lt (x.above y c (PySem.mem_of_lookup h)))
 ·unfold start
  show _=N.length
  rw [length_append,length_map,length_replicate]
  omega
theorem np' {CX:CXT}{P:Program}{w:World}{K:PySem.W.Frag}{mg:Str->Option Value}{base:Heap}{k:Nat}{f:Addr}{name qual:Str}{params:Arguments}{body:List Stmt}{scope:Scope}{dV kV bC pm ax ct oc:Value}{an od:Option Addr}
  {cP:Array (Option Value)}{N ps:List Str}{sp:Sp} (lk:K.lookup f=some ⟨oc,od,.func (fnOf name qual params body scope dV kV bC pm an ax ct),cP⟩) (aP:codeIn K ax qual=true) (S:FnScope N ps scope)
  (len:∀ vs H Q E,sp vs H Q E->vs.length=ps.length)
  (cQ:∀ (A:Around) (outer:List Env) (s:Shared) (H:Hp) (vs:List V) (Q:VK) (E:XK),Room k (A.deeper (envOfC qual scope s.heap.objs.size f ax))->sp vs H Q E →
   ∃ t,PSs (cxOf CX P w K mg base N qual scope f ax A outer s H E) body t/\t { nx:=λ_ H'=>Q .non H',rt:=Q } (start N vs) H) :
  FnOk P w K mg base CX (k+1) f (fnOf name qual params body scope dV kV bC pm an ax ct) ps sp:=by
 refine ⟨len,λA outer s H args us vs Q E hr e0 hb r dm=>?_⟩
 have hl:=len _ _ _ _ dm
 have KX:K.In s.heap:=e0.mod.kin.keeps λb o e=>(e0.bs b o e).1
 have lim:s.heap.NoLimit:=e0.mod.nolimit.keeps λb o e=>(e0.bs b o e).1
 have fZ:∀ y∈ps.zip us,scope.names.lookup y.1=some .local\/(scope.names.lookup y.1=some .cell/\((cellsFrom (s.heap.objs.size+1) scope.names []).lookup y.1).isSome=true):=λ⟨n,v⟩ hy=>by
  rcases S.par n (of_mem_zip hy).1 with q | q
  ·exact .inl q
  ·exact .inr ⟨q,PySem.W.cellsFrom_some _ _ _ (.inl q)⟩
 refine codeAny_call_function hr.depth (KX _ _ lk) rfl S.co S.gen rfl (PySem.W.codeRec_of KX aP) (hb _ _ _ _ ?_)
 refine wpAny_newFunctionEnv_cells S.kind fZ λenv he s1 x=>?_
 subst he
 refine ⟨lim.keeps x.toInCall.keep,codeAny_func ?_⟩
 obtain ⟨t,ht,hq⟩:=cQ A outer s H vs Q E (hr.deeper _) dm
 have I:Inv (cxOf CX P w K mg base N qual scope f ax A outer s H E) [] (start N vs) H s1:=ko' S hr.hd e0 hl r x
 refine wpAny_mono (ht [] s1 (start N vs) H _ I hq) (λfl s' hs=>?_) λe s' hs=>hs
 have fin:∀ {aq:St}{H':Hp}{v:V}{u:Value},Inv (cxOf CX P w K mg base N qual scope f ax A outer s H E) [] aq H' s'->RelV v u->Q v H'->CE outer P w H s Q u s' :=
  λ{aq H' v u} J rv q=>⟨v,H',J.os,J.bare,J.base,J.hok,rv,q⟩
 cases fl with
 | ret u =>
  obtain ⟨v,aq,H',J,rv,q⟩:=hs
  exact fin J rv q
 | next =>
  obtain ⟨aq,H',J,q⟩:=hs
  exact fin (v:=V.non) (u:=Value.none) J rfl q
 | brk =>
  obtain ⟨_,_,_,q⟩:=hs
  exact elim q
 | cont =>
  obtain ⟨_,_,_,q⟩:=hs
  exact elim q
section
variable {X:Cx}{x:Str}{p pos:Pos}{e:Expr}{es:List Expr}{t:TA}{id T:String}{r:List V->Hp->VK->Prop}
def tCB (r:List V->Hp->VK->Prop) (t:TA):TE:=λU H Q=>t U H λvs H1=>r vs H1 Q
theorem dm' (hc:CallR X (.builtin id) r) (hg:Gl X x) (hm:X.mg x=none) (hv:bootBuiltins x=some (.builtin id)) (ha:PA X (e::es) t) (hn:x ≠ "__name__":=by decide) (aS:(x == ("__debug__":Str))=false:=by decide)
  (he:starEach (e::es) X.env=(false,eval e X.env)::starEach es X.env:=by rfl) (aA:(backTo pos (starEach es X.env)).any (·.1)=false:=by rfl):PE X (.Call (.Name x p) (e::es) [] pos) (tCB r t):=by
 intro aa s U H Q I h
 refine wpAny_Call_Name_kw (aW' I hg hm hv ?_ hn aS)
 exact PyProof.Rows.callWith_builtin1 (thn (ha pos aa s U H _ I h) λus s1 ⟨vs,H1,I1,r1,q1⟩=>hc aa s1 U H1 vs us Q I1 r1 q1) he aA
theorem kq' (hc:CallR X (.type T) r) (hg:Gl X x) (hm:X.mg x=none) (hv:bootBuiltins x=some (.type T)) (ha:PA X (e::es) t) (hn:x ≠ "__name__":=by decide) (aS:(x == ("__debug__":Str))=false:=by decide)
  (he:starEach (e::es) X.env=(false,eval e X.env)::starEach es X.env:=by rfl) (aA:(backTo pos (starEach es X.env)).any (·.1)=false:=by rfl):PE X (.Call (.Name x p) (e::es) [] pos) (tCB r t):=by
 intro aa s U H Q I h
 refine wpAny_Call_Name_kw (aW' I hg hm hv ?_ hn aS)
 exact PyProof.Rows.callWith_type1 (thn (ha pos aa s U H _ I h) λus s1 ⟨vs,H1,I1,r1,q1⟩=>hc aa s1 U H1 vs us Q I1 r1 q1) he aA
end
end L2
namespace HT
open PySem PyProof.Rows
section
variable {prog:Program}{w:World}{A:Around}{E:Value->Shared->Prop}{s:Shared}
theorem q4' {t b:Addr}{vs ws:List Value}{Q:Value->Shared->Prop} (ht:IsTup s.heap t vs.toArray) (hb:IsTup s.heap b ws.toArray) (hv:vs≠[])
  (h1:ws=[]->Q (.ref t) s) (h2:ws≠[]->Q (.ref s.heap.objs.size) { s with heap:=s.heap.push { cls:=.type "tuple", data:=.seq (vs++ws).toArray } })
  (hsz:vs.length+ws.length<=sizeLine):wpAny (model prog w) A (binaryOp .Add (.ref t) (.ref b)) Q E s:=by
 obtain ⟨⟨cls,dd,data,sl⟩,ho,hc,n,hd⟩:=id ht
 obtain ⟨⟨mO,im,data2,fH⟩,eu,cR,n2,dI⟩:=id hb
 simp only at hc hd cR dI
 subst hc hd cR dI
 have e:vs.toArray++ws.toArray=(vs++ws).toArray:=by simp
 by_cases hw:ws=[]
 ·exact concat_meets ⟨_,ho,rfl⟩ ⟨_,eu,rfl⟩ noFill_tuple_add seq_tuple_add slot_tuple_add entry_tuple_add (args_tuple_add_2 _ _)
   (tuple_addW1 t b vs.toArray ws.toArray n n2 dd im sl fH (by simpa using hv) (by simp [hw])) ⟨ho,eu,h1 hw⟩
 ·refine concat_meets ⟨_,ho,rfl⟩ ⟨_,eu,rfl⟩ noFill_tuple_add seq_tuple_add slot_tuple_add entry_tuple_add (args_tuple_add_2 _ _)
   (tuple_addW2 t b vs.toArray ws.toArray n n2 dd im sl fH (by simpa using hv) (by simpa using hw) (by rw [size_toArray,size_toArray];exact hsz)) ⟨ho,eu,?_⟩
  rw [e]
  exact h2 hw
noncomputable def sIx (n d:Nat):Option Int->Nat
 | none=>d
 | some v=>if v < 0 then (v+(n:Int)).toNat else min v.toNat n
theorem px' (n d:Nat) (hd:d<=n) (o:Option Int):sIx n d o<=n:=by
 cases o with
 | none=>exact hd
 | some v =>
  show (if v < 0 then (v+(n:Int)).toNat else min v.toNat n)<=n
  by_cases hv:v < 0
  ·rw [if_pos hv];omega
  ·rw [if_neg hv];exact Nat.min_le_right _ _
theorem iK' (v:Int) (n d:Nat):(if v < 0 then max (v+(n:Int)) 0 else min v (n:Int))=((sIx n d (some v):Nat):Int):=by
 show (if v < 0 then max (v+(n:Int)) 0 else min v (n:Int))=(((if v < 0 then (v+(n:Int)).toNat else min v.toNat n):Nat):Int)
 by_cases hv:v < 0
 ·simp only [if_pos hv];omega
 ·simp only [if_neg hv];omega
theorem ju' (lo hi:Option Int) (n:Nat):sliceAdjust lo hi 1 (n:Int)=(((sIx n 0 lo:Nat):Int),((sIx n n hi:Nat):Int)):=by
 have h1:¬ ((1:Int) < 0):=by omega
 unfold sliceAdjust
 simp only [h1,if_false]
 refine Prod.ext ?_ ?_
 ·cases lo with
  | none=>rfl
  | some v=>exact iK' v n 0
 ·cases hi with
  | none=>rfl
  | some v=>exact iK' v n n
theorem jv' (i j:Nat):slicePlaces (i:Int) (j:Int) 1=j - i:=by
 unfold slicePlaces
 have h1:(1:Int) > 0:=by omega
 simp only [h1,if_true,Int.ediv_one]
 split<;>omega
theorem fg' {v:Value}{o:Option Int}{Q:Option Int->Shared->Prop} (p:IsPart v o) (h:Q o s):wpAny (model prog w) A (Builtin.Slice.slicePartIndex v) Q E s:=by
 cases p with
 | none=>exact slicePart_none h
 | int i t=>exact slicePart_int h
theorem eH' {sl:Addr}{vl vu:Value}{lo hi:Option Int}{n:Nat}{Q:Int×Int×Nat->Shared->Prop} (hs:s.heap.IsSliceOf sl vl vu .none) (pl:IsPart vl lo) (pu:IsPart vu hi)
  (h:Q (((sIx n 0 lo:Nat):Int),1,sIx n n hi - sIx n 0 lo) s):wpAny (model prog w) A (sliceApplied (.ref sl) (pure (n:Int))) Q E s:=by
 obtain ⟨os,gj,mP,fI⟩:=id hs
 unfold sliceApplied Builtin.Slice.sliceFields
 refine wpAny_bind (wpAny_bind (wpAny_field gj fI (x:=vl) rfl (wpAny_bind (wpAny_field gj fI (x:=vu) rfl (wpAny_bind (wpAny_field gj fI (x:=.none) rfl (wpAny_pure ?_)))))))
 refine wpAny_bind (slicePart_none ?_)
 show wpAny _ _ (if ((1:Int) == 0)=true then _ else _) _ _ s
 rw [if_neg (by decide)]
 refine wpAny_bind (fg' pl (wpAny_bind (fg' pu (wpAny_bind (wpAny_pure ?_)))))
 show wpAny _ _ (match sliceAdjust lo hi 1 (n:Int) with | (lo,hi)=>pure (lo,(1:Int),slicePlaces lo hi 1)) _ _ s
 rw [ju' lo hi n]
 show wpAny _ _ (pure (((sIx n 0 lo:Nat):Int),(1:Int),slicePlaces ((sIx n 0 lo:Nat):Int) ((sIx n n hi:Nat):Int) 1)) _ _ s
 rw [jv']
 exact wpAny_pure h
theorem l6' (xs:Array Value) (i k:Nat):((range k).filterMap λ(m:Nat)=>xs[((i:Int)+(m:Int)*1).toNat]?).toArray=((xs.toList.drop i).take k).toArray:=by
 have e:(λ(m:Nat)=>xs[((i:Int)+(m:Int)*1).toNat]?)=λm=>xs[i+m]?:=by
  funext m
  have:((i:Int)+(m:Int)*1).toNat=i+m:=by omega
  rw [this]
 rw [e]
 have:=pick_run xs i k
 rw [List.filterMap_map] at this
 have e2:((λx=>xs[x]?)∘λx=>i+x)=λm=>xs[i+m]?:=rfl
 rw [e2] at this
 rw [this]
theorem l2' {t sl:Addr}{items:Array Value}{vl vu:Value}{lo hi:Option Int}{Q:Value->Shared->Prop} (ht:IsTup s.heap t items) (hs:s.heap.IsSliceOf sl vl vu .none) (pl:IsPart vl lo) (pu:IsPart vu hi)
  (hw:¬ (sIx items.size 0 lo=0/\sIx items.size items.size hi=items.size))
  (h:Q (.ref s.heap.objs.size) { s with heap:=s.heap.push { cls:=.type "tuple", data:=.seq ((items.toList.drop (sIx items.size 0 lo)).take (sIx items.size items.size hi - sIx items.size 0 lo)).toArray } })
  (hsz:items.size<=sizeLine):wpAny (model prog w) A (getItem (.ref t) (.ref sl)) Q E s:=by
 have dJ:sizeOk (.seq ((items.toList.drop (sIx items.size 0 lo)).take (sIx items.size items.size hi - sIx items.size 0 lo)).toArray):=by
  show ((items.toList.drop (sIx items.size 0 lo)).take (sIx items.size items.size hi - sIx items.size 0 lo)).toArray.size<=sizeLine
  rw [size_toArray,length_take,length_drop,length_toList]
  omega
 have hj:sIx items.size items.size hi<=items.size:=px' _ _ (le_refl _) hi
 obtain ⟨os,gj,mP,fI⟩:=id hs
 have qy:s.TypeIs (.ref sl) "slice":=⟨os,gj,mP⟩
 unfold getItem
 try with_reducible refine wpAny_holding ?_
 first | refine wpAny_bind (wpAny_pure ?_) | skip
 refine wpAny_bind (wpAny_sequenceKey ht.typeIs (by decide) ?_)
 refine wpAny_bind (wpAny_callSpecial?_slot (name:=ofString "__getitem__") ht.typeIs PyProof.Rows.slot_tuple_getitem
  (wpAny_call_entry PyProof.Rows.slot_tuple_getitem ht.typeIs entry_tuple_getitem ?_ (args_tuple_getitem _ _)))
 show wpAny _ _ (Builtin.Tuple.tupleItemsOf (.ref t) >>= _) _ _ s
 refine wpAny_bind (tupleItemsOf_ ht ?_)
 refine wpAny_bind (wpAny_typeOf qy ?_)
 rw [if_pos (by decide)]
 refine wpAny_bind (eH' hs pl pu ?_)
 have io:¬ ((((sIx items.size 0 lo:Nat):Int) == 0&&(1:Int) == 1&&(sIx items.size items.size hi - sIx items.size 0 lo) == items.size)=true):=by
  intro q
  rw [and_eq_true,and_eq_true] at q
  have q1:((sIx items.size 0 lo:Nat):Int)=0:=eq_of_beq q.1.1
  have q2:sIx items.size items.size hi - sIx items.size 0 lo=items.size:=eq_of_beq q.2
  exact hw ⟨by omega,by omega⟩
 show wpAny _ _ (if (((sIx items.size 0 lo:Nat):Int) == 0&&(1:Int) == 1&&(sIx items.size items.size hi - sIx items.size 0 lo) == items.size)=true then _ else _) _ _ s
 rw [if_neg io,l6']
 first
  | exact wpAny_bind (m:=tupleExact _) (wpAny_newObj_type (wpAny_pure ⟨_,rfl,wpAny_pure h⟩) dJ)
  | exact wpAny_bind (m:=tupleExact _) (wpAny_newObj_type (wpAny_bind (wpAny_pure (wpAny_pure ⟨_,rfl,wpAny_pure h⟩))) dJ)
  | exact wpAny_bind (wpAny_bind (m:=tupleExact _) (wpAny_newObj_type (wpAny_pure (wpAny_pure ⟨_,rfl,wpAny_pure h⟩)) dJ))
  | exact wpAny_bind (wpAny_bind (m:=tupleExact _) (wpAny_newObj_type (wpAny_pure ⟨_,rfl,wpAny_pure h⟩) dJ))
end
end HT
namespace L2
open PySem PySem.Spec PyProof.Rows
abbrev TO:=St->Hp->(Option Int->Hp->Prop)->Prop
def PO (X:Cx) (e:Option Expr) (t:TO):Prop :=
 ∀ (aa:List (Addr×Obj)) (s:Shared) (U:St) (H:Hp) (Q:Option Int->Hp->Prop),Inv X aa U H s->t U H Q →
  wpAny (model X.prog X.w) X.A (evalPart e X.env) (λu s'=>∃ o H',Inv X aa U H' s'/\IsPart u o/\Q o H') X.xe s
def tNoPart:TO:=λ_ H Q=>Q none H
def tPart (t:TE):TO:=λU H Q=>t U H λx H1=>∃ i,x=.int i/\Q (some i) H1
section
variable {X:Cx}{e:Expr}{te:TE}{lo hi:Option Expr}{tl th:TO}{pos p2:Pos}
theorem nQ':PO X none tNoPart:=by
 intro aa s U H Q I h
 rw [evalPart_none]
 exact wpAny_pure ⟨none,H,I,.none,h⟩
theorem nR' (h:PE X e te):PO X (some e) (tPart te):=by
 intro aa s U H Q I hw
 rw [evalPart_some]
 refine thn (h aa s U H _ I hw) λu s1 ⟨x,H1,I1,r1,q1⟩=>?_
 obtain ⟨i,rfl,q⟩:=q1
 obtain ⟨t,rfl⟩:=r1
 exact ⟨some i,H1,I1,.int i t,q⟩
def SlR (X:Cx) (r:V->Option Int->Option Int->Hp->VK->Prop):Prop :=
 ∀ (aa:List (Addr×Obj)) (s:Shared) (U:St) (H:Hp) (x:V) (v vl vu:Value) (lo hi:Option Int) (sl:Addr) (Q:VK),Inv X aa U H s->RelV x v->s.heap.IsSliceOf sl vl vu .none->IsPart vl lo->IsPart vu hi->r x lo hi H Q →
  ∃ T id,typeLookup (.type T) "__getitem__"=pure (some (.builtin id))/\s.TypeIs v T/\wpAny (model X.prog X.w) X.A (getItem v (.ref sl)) (EP X aa U Q) X.xe s
theorem SlR.or {r r':V->Option Int->Option Int->Hp->VK->Prop} (h:SlR X r) (h':SlR X r'):SlR X (λx lo hi H Q=>r x lo hi H Q\/r' x lo hi H Q):=by
 intro aa s U H x v vl vu lo hi sl Q I rx hs pl pu q
 rcases q with q | q
 ·exact h aa s U H x v vl vu lo hi sl Q I rx hs pl pu q
 ·exact h' aa s U H x v vl vu lo hi sl Q I rx hs pl pu q
noncomputable def tSl (r:V->Option Int->Option Int->Hp->VK->Prop) (te:TE) (tl th:TO):TE:=λU H Q=>te U H λx H1=>tl U H1 λl H2=>th U H2 λu H3=>r x l u H3 Q
theorem l7' {r:V->Option Int->Option Int->Hp->VK->Prop} (hr:SlR X r) (he:PE X e te) (hl:PO X lo tl) (hu:PO X hi th):PE X (.Subscript e (.Slice lo hi none p2) pos) (tSl r te tl th):=by
 intro aa s U H Q I h
 refine Subscript_ (thn (he aa s U H _ I h) λv s1 ⟨x,H1,I1,r1,q1⟩=>?_)
 refine wpAny_Slice (thn (hl aa s1 U H1 _ I1 q1) λvl s2 ⟨l,H2,I2,pl,q2⟩=>thn (hu aa s2 U H2 _ I2 q2) λvu s3 ⟨u,H3,I3,pu,q3⟩=>?_)
 rw [evalPart_none]
 refine wpAny_pure ?_
 have I4:Inv X aa U H3 { s3 with heap:=s3.heap.push { cls:=.type "slice", data:=.fields #[vl,vu,.none] } }:=I3.kept (t':=s3.toks) λb ob q=>get?_push_of_some _ q
 obtain ⟨T,id,hT,ht,hg⟩:=hr aa { s3 with heap:=s3.heap.push { cls:=.type "slice", data:=.fields #[vl,vu,.none] } } U H3 x v vl vu l u s3.heap.objs.size Q I4 r1 (Heap.IsSliceOf.new ..) pl pu q3
 show wpAny (model X.prog X.w) X.A (subscriptTail e (.Slice lo hi none p2) v (.ref s3.heap.objs.size)) (EP X aa U Q) X.xe { s3 with heap:=s3.heap.push { cls:=.type "slice", data:=.fields #[vl,vu,.none] } }
 exact tail_any (ops:=[.ref s3.heap.objs.size,v]) ht hT hg (by with_unfolding_all rfl)
noncomputable def cutV (xs:List V) (lo hi:Option Int):List V:=(xs.drop (HT.sIx xs.length 0 lo)).take (HT.sIx xs.length xs.length hi - HT.sIx xs.length 0 lo)
theorem ew' (xs:List V) (lo hi:Option Int):(cutV xs lo hi).length<=xs.length:=by
 unfold cutV
 rw [length_take,length_drop]
 omega
def rSlT (K:PySem.W.Frag):V->Option Int->Option Int->Hp->VK->Prop:=λx lo hi H Q=>∃ a xs,x=.ref a/\SqT K H a xs ∧
 ¬ (HT.sIx xs.length 0 lo=0/\HT.sIx xs.length xs.length hi=xs.length)/\∀ p,H p=none->Q (.ref p) (upd H p (.tup (cutV xs lo hi)))
theorem py':SlR X (rSlT X.K):=by
 intro aa s U H x v vl vu lo hi sl Q I rx hs pl pu h
 obtain ⟨a,xs,rfl,hx,hw,q⟩:=h
 cases rx
 obtain ⟨af,r,ht,hz⟩:=I.tuple hx
 have aM:af.toArray.size=xs.length:=by rw [size_toArray];exact r.length.symm
 refine ⟨"tuple", _,PyProof.Rows.slot_tuple_getitem.lookup,ht.typeIs,?_⟩
 refine HT.l2' ht hs pl pu (by rw [aM];exact hw) ?_ (by rw [aM];exact hz)
 rw [aM]
 refine ⟨.ref s.heap.objs.size,_,I.laid (t':=s.toks) (o:=.tup (cutV xs lo hi)) (λb ob q=>get?_push_of_some _ q) (le_refl _) ?_,rfl,q _ (I.hok.fresh (le_refl _))⟩
 exact ⟨le_trans (ew' xs lo hi) hz,_,(r.drop (HT.sIx xs.length 0 lo)).take (HT.sIx xs.length xs.length hi - HT.sIx xs.length 0 lo),IsTup.new _ _⟩
noncomputable def rCatT (K:PySem.W.Frag):R2:=λx y H Q=>∃ a b xs ys,x=.ref a/\y=.ref b/\SqT K H a xs/\SqT K H b ys/\xs≠[]/\xs.length+ys.length<=sizeLine ∧
 (ys=[]->Q (.ref a) H)/\(ys≠[]->∀ p,H p=none->Q (.ref p) (upd H p (.tup (xs++ys))))
theorem Vals.nil_iff {xs:List V}{us:List Value} (r:Vals xs us):us=[]↔xs=[]:=by
 cases r with
 | nil=>simp
 | cons _ _=>simp
theorem nS':OpR X (binaryOp .Add) (rCatT X.K):=by
 intro aa s U H x y v u Q I rx ry h
 obtain ⟨a,b,xs,ys,rfl,rfl,ha,hb,hx,hz,q1,q2⟩:=h
 cases rx
 cases ry
 obtain ⟨af,r1,p1,_⟩:=I.tuple ha
 obtain ⟨bL,r2,p2,_⟩:=I.tuple hb
 refine HT.q4' p1 p2 (λz=>hx (r1.nil_iff.mp z)) (λz=>⟨.ref a,H,I,rfl,q1 (r2.nil_iff.mp z)⟩) (λz=>?_) (by rw [← r1.length,← r2.length];exact hz)
 refine ⟨.ref s.heap.objs.size,_,I.laid (t':=s.toks) (o:=.tup (xs++ys)) (λb ob q=>get?_push_of_some _ q) (le_refl _) ?_,rfl,q2 (λw=>z (r2.nil_iff.mpr w)) _ (I.hok.fresh (le_refl _))⟩
 exact ⟨by rw [length_append];exact hz,_,r1.append r2,IsTup.new _ _⟩
end
noncomputable def ixN (n:Nat) (i:Int):Option Nat:=if 0<=i then (if i < n then some i.toNat else none) else if -(n:Int)<=i then some (i+n).toNat else none
def atI {α:Type} (xs:List α) (i:Int):Option α:=(ixN xs.length i).bind λj=>xs[j]?
theorem iL' {n:Nat}{i:Int}{j:Nat} (h:ixN n i=some j):seqIndex? i n=some j/\j < n/\-(n:Int)<=i/\i < n:=by
 unfold ixN at h
 by_cases h0:0<=i
 ·rw [if_pos h0] at h
  by_cases h1:i < n
  ·rw [if_pos h1] at h
   have e:i.toNat=j:=Option.some.inj h
   exact ⟨by rw [seqIndex_of h0 h1,e],by omega,by omega,h1⟩
  ·rw [if_neg h1] at h;cases h
 ·rw [if_neg h0] at h
  by_cases h1:-(n:Int)<=i
  ·rw [if_pos h1] at h
   have e:(i+n).toNat=j:=Option.some.inj h
   exact ⟨by rw [seqIndex_neg (by omega) h1,e],by omega,h1,by omega⟩
  ·rw [if_neg h1] at h;cases h
theorem iM' {α:Type}{xs:List α}{i:Int}{v:α} (h:atI xs i=some v):∃ j,seqIndex? i xs.length=some j/\xs[j]?=some v/\j < xs.length/\-(xs.length:Int)<=i/\i < xs.length:=by
 unfold atI at h
 cases e:ixN xs.length i with
 | none=>rw [e] at h;cases h
 | some j =>
  rw [e] at h
  obtain ⟨h1,h2,h3,h4⟩:=iL' e
  exact ⟨j,h1,h,h2,h3,h4⟩
theorem cB' {α:Type} (xs:List α) (v:α):atI (xs++[v]) (-1)=some v:=by
 have hl:(xs++[v]).length=xs.length+1:=by simp
 have e:ixN (xs++[v]).length (-1)=some xs.length:=by
  unfold ixN
  rw [hl,if_neg (by decide),if_pos (by omega)]
  congr 1
  omega
 unfold atI
 rw [e]
 show (xs++[v])[xs.length]?=some v
 simp
def PlainIx (b:Expr):Prop:=∀ o i,subscripted b false o i=operate [o,i] (getItem o i)
def IxR (X:Cx) (r:R2):Prop :=
 ∀ (value bN:Expr) (aa:List (Addr×Obj)) (s:Shared) (U:St) (H:Hp) (x y:V) (v u:Value) (Q:VK),Inv X aa U H s->RelV x v->RelV y u->r x y H Q →
  subscripted bN false v u=operate [v,u] (getItem v u)->wpAny (model X.prog X.w) X.A (subscriptTail value bN v u) (EP X aa U Q) X.xe s
def MtR (X:Cx) (id:String) (r:V->List V->Hp->VK->Prop):Prop :=
 ∀ (aa:List (Addr×Obj)) (s:Shared) (U:St) (H:Hp) (x:V) (xs:List V) (v:Value) (us:List Value) (Q:VK),Inv X aa U H s->RelV x v->Vals xs us->r x xs H Q →
  wpAny (model X.prog X.w) X.A (call (.builtin id) (v::us)) (EP X aa U Q) X.xe s
section
variable {X:Cx}{a b:Expr}{ta tb:TE}{pos:Pos}
theorem IxR.or {r r':R2} (h:IxR X r) (h':IxR X r'):IxR X (λx y H Q=>r x y H Q\/r' x y H Q):=by
 intro value bN aa s U H x y v u Q I rx ry q hs
 rcases q with q | q
 ·exact h value bN aa s U H x y v u Q I rx ry q hs
 ·exact h' value bN aa s U H x y v u Q I rx ry q hs
theorem nq' {r:R2} (hr:IxR X r) (ha:PE X a ta) (hb:PE X b tb) (hs:PlainIx b):PE X (.Subscript a b pos) (tOp r ta tb):=by
 intro aa s U H Q I h
 exact Subscript_ (binT ha hb I h λv u s2 x y H2 I2 rx ry q=>hr a b aa s2 U H2 x y v u Q I2 rx ry q (hs _ _))
noncomputable def rIxL (K:PySem.W.Frag):R2:=λx y H Q=>∃ p xs i v,x=.ref p/\y=.int i/\SqL K H p xs/\atI xs i=some v/\Q v H
noncomputable def rIxT (K:PySem.W.Frag):R2:=λx y H Q=>∃ p xs i v,x=.ref p/\y=.int i/\SqT K H p xs/\atI xs i=some v/\Q v H
theorem iN':IxR X (rIxL X.K):=by
 intro value bN aa s U H x y v u Q I rx ry h hs
 obtain ⟨p,xs,i,z,rfl,rfl,hq,he,q⟩:=h
 cases rx
 obtain ⟨t,rfl⟩:=ry
 obtain ⟨af,r,pl,hz⟩:=I.list hq
 obtain ⟨j,h1,h2,h3,h4,h5⟩:=iM' he
 obtain ⟨w,ew,jM⟩:=r.get h2
 have hl:=r.length
 have hn:=line63
 have fin:EP X aa U Q w s:=⟨z,H,I,jM,q⟩
 by_cases h0:0<=i
 ·have hj:i.toNat=j:=by
   rw [seqIndex_of h0 h5] at h1
   exact Option.some.inj h1
  exact item_listR pl.isList h0 (by omega) (by rw [hj];simpa using ew) fin hs
 ·have hj:(i+(af.toArray.size:Int)).toNat=j:=by
   rw [seqIndex_neg (by omega) h4] at h1
   rw [size_toArray,← hl]
   exact Option.some.inj h1
  exact subscriptTail_builtinR (x:=w) pl.isList.typeIs slot_list_getitem.lookup
   (wpAny_getItem_list_neg (Q:=λr s'=>r=w/\EP X aa U Q r s') pl.isList (by omega) (by rw [size_toArray]<;>omega) (by omega) (by rw [hj];simpa using ew) ⟨rfl,fin⟩) hs
theorem pz':IxR X (rIxT X.K):=by
 intro value bN aa s U H x y v u Q I rx ry h hs
 obtain ⟨p,xs,i,z,rfl,rfl,hq,he,q⟩:=h
 cases rx
 obtain ⟨t,rfl⟩:=ry
 obtain ⟨af,r,pl,hz⟩:=I.tuple hq
 obtain ⟨j,h1,h2,h3,h4,h5⟩:=iM' he
 obtain ⟨w,ew,jM⟩:=r.get h2
 have hl:=r.length
 have hn:=line63
 have fin:EP X aa U Q w s:=⟨z,H,I,jM,q⟩
 exact subscriptTail_builtinR (x:=w) pl.typeIs slot_tuple_getitem.lookup
  (getItem_tuple (j:=j) (Q:=λr s'=>r=w/\EP X aa U Q r s') pl (by omega) (by omega) (by rw [size_toArray,← hl];exact h1) (by simpa using ew) ⟨rfl,fin⟩) hs
theorem jw' (af:List Value) (n j:Nat) (u:Value):mapSeq (·.setIfInBounds j u) { cls:=.type "list", data:=.seq af.toArray n }={ cls:=.type "list", data:=.seq (af.set j u).toArray n }:=by
 simp [mapSeq]
theorem Inv.lst {aa:List (Addr×Obj)}{U:St}{H:Hp}{s:Shared}{p:Addr}{xs:List V} (I:Inv X aa U H s) (h:H p=some (.lst xs)) :
  ∃ (af:List Value) (n:Nat),Vals xs af/\s.heap.get? p=some { cls:=.type "list", data:=.seq af.toArray n }/\xs.length<=sizeLine:=by
 obtain ⟨z,af,n,r,e⟩:=I.hok p _ h
 exact ⟨af,n,r,e,z⟩
theorem Inv.lstUpd {aa:List (Addr×Obj)}{U:St}{H:Hp}{s:Shared}{p:Addr}{xs ys:List V}{af its':List Value}{n n':Nat}{f:Obj->Obj} (I:Inv X aa U H s) (h:H p=some (.lst xs))
  (ho:s.heap.get? p=some { cls:=.type "list", data:=.seq af.toArray n }) (hf:f { cls:=.type "list", data:=.seq af.toArray n }={ cls:=.type "list", data:=.seq its'.toArray n' }) (r:Vals ys its') (hz:ys.length<=sizeLine) (t:Nat) :
  Inv X aa U (upd H p (.lst ys)) { s with heap:=s.heap.update p f,toks:=t }:=by
 have e:(s.heap.update p f).get? p=some { cls:=.type "list", data:=.seq its'.toArray n' }:=by
  rw [get?_update_self f ho (by rw [hf]<;>rfl),hf]
 refine I.write (x:=p) (e:=p) (by rw [h];trivial) (.inl rfl) (λb u hb q=>(get?_update_other _ _ (Ne.symm hb)).trans q) ⟨_,e⟩ ?_
 exact ⟨hz,its',n',r,e⟩
def rSetL:V->V->V->Hp->(Hp->Prop)->Prop:=λo i v H Q=>∃ p xs k j,o=.ref p/\i=.int k/\H p=some (.lst xs)/\ixN xs.length k=some j/\Q (upd H p (.lst (xs.set j v)))
theorem l8':PSet X rSetL:=by
 intro aa s U H o i v ov iv u Q I ro ri rv h
 obtain ⟨p,xs,k,j,rfl,rfl,hp,hj,q⟩:=h
 cases ro
 obtain ⟨t,rfl⟩:=ri
 obtain ⟨af,n,r,ho,hz⟩:=I.lst hp
 obtain ⟨h1,h2,h3,h4⟩:=iL' hj
 have hl:=r.length
 have hn:=line63
 have I':Inv X aa U (upd H p (.lst (xs.set j v))) { s with heap:=s.heap.update p (mapSeq (·.setIfInBounds j u)) } :=
  I.lstUpd hp ho (jw' af n j u) (r.set rv j) (by rw [length_set];exact hz) s.toks
 by_cases h0:0<=k
 ·have hk:k.toNat=j:=by
   rw [seqIndex_of h0 h4] at h1
   exact Option.some.inj h1
  exact PySem.W.ki_setAt ho h0 (by omega) (by rw [size_toArray,← hl];exact h4) (by rw [hk];exact ⟨_,I',q⟩)
 ·have hk:(k+(af.toArray.size:Int)).toNat=j:=by
   rw [seqIndex_neg (by omega) h3] at h1
   rw [size_toArray,← hl]
   exact Option.some.inj h1
  exact PySem.W.ki_setBack ho (by omega) (by rw [size_toArray,← hl];exact h3) (by omega) (by rw [hk];exact ⟨_,I',q⟩)
theorem g7' (lo hi:Option Int) (n:Nat):(sliceBounds lo hi none n).1=((HT.sIx n 0 lo:Nat):Int)/\(sliceBounds lo hi none n).2.1=((HT.sIx n n hi:Nat):Int)/\(sliceBounds lo hi none n).2.2=1:=by
 refine ⟨?_,?_,rfl⟩
 ·cases lo with
  | none=>simp [sliceBounds,HT.sIx]
  | some i =>
   simp only [sliceBounds,HT.sIx,getD_none,show (1:Int) > 0 by decide,if_true]
   by_cases h:i < 0
   ·simp only [h,if_true]<;>omega
   ·simp only [h,if_false]<;>omega
 ·cases hi with
  | none=>simp [sliceBounds,HT.sIx]
  | some i =>
   simp only [sliceBounds,HT.sIx,getD_none,show (1:Int) > 0 by decide,if_true]
   by_cases h:i < 0
   ·simp only [h,if_true]<;>omega
   ·simp only [h,if_false]<;>omega
theorem gK' (af:List Value) (lo hi:Option Int):slicePick af.toArray lo hi none=((af.drop (HT.sIx af.length 0 lo)).take (HT.sIx af.length af.length hi - HT.sIx af.length 0 lo)).toArray:=by
 obtain ⟨h1,h2,h3⟩:=g7' lo hi af.toArray.size
 unfold slicePick
 rw [h1,h2,h3]
 simp only [sliceRange_one,pick_run,size_toArray]<;>rfl
def rSlL (K:PySem.W.Frag):V->Option Int->Option Int->Hp->VK->Prop:=λx lo hi H Q=>∃ a xs,x=.ref a/\SqL K H a xs/\∀ p,H p=none->Q (.ref p) (upd H p (.lst (cutV xs lo hi)))
theorem nT':SlR X (rSlL X.K):=by
 intro aa s U H x v vl vu lo hi sl Q I rx hs pl pu h
 obtain ⟨a,xs,rfl,hx,q⟩:=h
 cases rx
 obtain ⟨af,r,ht,hz⟩:=I.list hx
 have aM:=r.length
 refine ⟨"list", _,slot_list_getitem.lookup,ht.isList.typeIs,?_⟩
 refine wpAny_getItem_list_slice ht.isList hs pl pu .none (by simp) ?_ (by rw [size_toArray]<;>omega)
 rw [gK',← aM]
 refine ⟨.ref s.heap.objs.size,_,I.laid (t':=s.toks) (o:=.lst (cutV xs lo hi)) (λb ob q=>get?_push_of_some _ q) (le_refl _) ?_,rfl,q _ (I.hok.fresh (le_refl _))⟩
 exact ⟨le_trans (ew' xs lo hi) hz,_,0,(r.drop (HT.sIx xs.length 0 lo)).take (HT.sIx xs.length xs.length hi - HT.sIx xs.length 0 lo),get?_push_size _ rfl⟩
theorem dN':CallR X (.builtin "len") (λxs H Q=>∃ p ys,xs=[.ref p]/\(SqL X.K H p ys\/SqT X.K H p ys)/\Q (.int ys.length) H):=by
 intro aa s U H xs us Q I r h
 obtain ⟨p,ys,rfl,hq,q⟩:=h
 obtain ⟨u,rfl,rx⟩:=vals1 r
 cases rx
 have hn:=line63
 rcases hq with hq | hq
 ·obtain ⟨af,r',pl,hz⟩:=I.list hq
  have aM:=r'.length
  exact Calls.call_len_list pl.isList (by simp only [size_toArray]<;>omega) ⟨.int ys.length,H,I.tok _,⟨s.toks+1,by rw [size_toArray,aM]⟩,q⟩
 ·obtain ⟨af,r',pl,hz⟩:=I.tuple hq
  have aM:=r'.length
  exact len_tuple pl (by simp only [size_toArray]<;>omega) ⟨.int ys.length,H,I.tok _,⟨s.toks+1,by rw [size_toArray,aM]⟩,q⟩
theorem g8':CallR X (.type "list") (λxs H Q=>∃ p ys,xs=[.ref p]/\(SqL X.K H p ys\/SqT X.K H p ys)/\∀ l,H l=none->Q (.ref l) (upd H l (.lst ys))):=by
 intro aa s U H xs us Q I r h
 obtain ⟨p,ys,rfl,hq,q⟩:=h
 obtain ⟨u,rfl,rx⟩:=vals1 r
 cases rx
 have fin:∀ (af:List Value),Vals ys af->ys.length<=sizeLine->∀ (h':Heap) (c':Nat),(∀ b o',s.heap.get? b=some o'->h'.get? b=some o') →
   h'.get? s.heap.objs.size=some { cls:=.type "list", dict:=none,data:=.seq af.toArray c',slots:=#[] }->EP X aa U Q (.ref s.heap.objs.size) { s with heap:=h' }:=λaf r' hz h' c' kp e =>
  ⟨.ref s.heap.objs.size,_,I.laid (t':=s.toks) kp (le_refl _) (show ObjOk X.prog X.w _ h' _ (.lst ys) from ⟨hz,af,c',r',e⟩),rfl,q _ (I.hok.fresh (le_refl _))⟩
 rcases hq with hq | hq
 ·obtain ⟨af,r',pl,hz⟩:=I.list hq
  have aM:=r'.length
  obtain ⟨o,ho,hc,n,hd⟩:=pl.isList
  exact call_list_seq p (.inl rfl) ho hc hd (λh' c' kp e=>fin af r' hz h' c' kp e) (by simp only [size_toArray]<;>omega)
 ·obtain ⟨af,r',pl,hz⟩:=I.tuple hq
  have aM:=r'.length
  obtain ⟨o,ho,hc,n,hd⟩:=pl
  exact call_list_seq p (.inr rfl) ho hc hd (λh' c' kp e=>fin af r' hz h' c' kp e) (by simp only [size_toArray]<;>omega)
def tyV (K:PySem.W.Frag) (T:String) (x:V) (H:Hp):Prop:=match x with
 | .str _=>T = "str"
 | .int _=>T = "int"
 | .ref p=>(T = "list"/\∃ xs,SqL K H p xs)\/(T = "tuple"/\∃ o,K.lookup p=some o/\o.cls=.type "tuple"/\o.dict=none) ∨
   (T = "dict"/\((∃ ah,H p=some (.dK ah))\/∃ ah,H p=some (.dT ah)))\/(T = "set"/\∃ S n,H p=some (.set S n))
 | _=>False
theorem pA' {aa:List (Addr×Obj)}{U:St}{H:Hp}{s:Shared}{T:String}{x:V}{v:Value} (I:Inv X aa U H s) (r:RelV x v) (ty:tyV X.K T x H) :
  s.TypeIs v T/\∀ a,v=.ref a->∃ ob,s.heap.get? a=some ob/\ob.dict=none:=by
 cases x with
 | str z =>
  obtain ⟨t,rfl⟩:=r
  cases (show T = "str" from ty)
  exact ⟨typeIs_str s z t,λ_ e=>nomatch e⟩
 | int i =>
  obtain ⟨t,rfl⟩:=r
  cases (show T = "int" from ty)
  exact ⟨typeIs_int s i t,λ_ e=>nomatch e⟩
 | ref p =>
  cases r
  rcases ty with ⟨rfl,xs,hq⟩ | ⟨rfl,o,hk,hc,hd⟩ | ⟨rfl,hk⟩ | ⟨rfl,S,n,hk⟩
  ·obtain ⟨af,_,pl,_⟩:=I.list hq
   refine ⟨pl.isList.typeIs,λa e=>?_⟩
   cases e
   obtain ⟨o,n,e,c,hd,_⟩:=pl
   exact ⟨o,e,hd⟩
  ·refine ⟨⟨o,I.kIn p o hk,hc⟩,λa e=>?_⟩
   cases e
   exact ⟨o,I.kIn _ o hk,hd⟩
  ·have z:∃ o,s.heap.get? p=some o/\o.ExactDict:=by
    rcases hk with ⟨ah,hk⟩ | ⟨ah,hk⟩
    ·obtain ⟨_,_,_,_,o,_,_,e,ex,_⟩:=I.hok p _ hk
     exact ⟨o,e,ex⟩
    ·obtain ⟨_,_,_,_,o,_,_,e,ex,_⟩:=I.hok p _ hk
     exact ⟨o,e,ex⟩
   obtain ⟨o,e,ex⟩:=z
   refine ⟨⟨o,e,ex.1⟩,λa e2=>?_⟩
   cases e2
   exact ⟨o,e,ex.2.1⟩
  ·obtain ⟨o,_,_,_,e,ex,_⟩:=I.hok p _ hk
   refine ⟨⟨o,e,ex.1⟩,λa e2=>?_⟩
   cases e2
   exact ⟨o,e,ex.2.1⟩
 | _=>exact elim ty
noncomputable def tBM (K:PySem.W.Frag) (T:String) (r:V->List V->Hp->VK->Prop) (to:TE) (t:TA):TE:=λU H Q=>to U H λx H1=>tyV K T x H1/\t U H1 λxs H2=>r x xs H2 Q
variable {o e:Expr}{es:List Expr}{to:TE}{t:TA}{name:Str}{ba aC:Pos}{T id:String}{r:V->List V->Hp->VK->Prop}
theorem nr' (pa:PlainAttrs T) (slot:Slot T name id) (qz:typeOf (.builtin id)=pure (.type "method_descriptor")) (hm:MtR X id r) (ho:PE X o to) (ha:PA X (e::es) t)
  (cS:attributeBase o name X.env (eval o X.env)=eval o X.env:=by rfl)
  (bY:((backTo aC (starEach (e::es) X.env)).all (λx=>!x.1)&&(backToKw aC (keywordEach [] X.env)).all (λx=>x.1.isSome)
   &&decide ((e::es).length+([]:List Keyword).length+(if ([]:List Keyword).isEmpty then 0 else 1) < 30))=true:=by rfl)
  (cU:(ba.endLine == aC.line)=true:=by rfl) (hs:starEach (e::es) X.env=(false,eval e X.env)::starEach es X.env:=by rfl) (bZ:(backTo aC (starEach es X.env)).any (·.1)=false:=by rfl) :
  PE X (.Call (.Attribute o name ba) (e::es) [] aC) (tBM X.K T r to t):=by
 intro aa s U H Q I h
 refine wpAny_Call_method_late cS bY cU rfl (thn (ho aa s U H _ I h) λv s1 ⟨x,H1,I1,r1,ty,q1⟩=>?_)
 obtain ⟨h1,h2⟩:=pA' I1 r1 ty
 refine ⟨T,id,pa,slot,qz,h1,h2,?_⟩
 have hA:=ha aC aa s1 U H1 _ I1 q1
 rw [hs] at hA ⊢
 refine Calls.callWith_builtin (by show (false||(backTo aC (starEach es X.env)).any (·.1))=false;rw [bZ]<;>rfl) (Calls.evalArgs_plain ?_)
 exact thn hA λus s2 ⟨vs,H2,I2,r2,q2⟩=>hm aa s2 U H2 x vs v us Q I2 r1 r2 q2
end
def MtM (X:Cx) (id:String) (r:V->List V->Hp->VK->Prop):Prop :=
 ∀ (aa:List (Addr×Obj)) (s:Shared) (U:St) (H:Hp) (x:V) (xs:List V) (v:Value) (us:List Value) (Q:VK),Inv X aa U H s->RelV x v->Vals xs us->r x xs H Q →
  wpAny (model X.prog X.w) X.A (call (.builtin id) (v::us)) (EP X aa U Q) X.xe s
theorem Vals.one:∀ {x:V}{us:List Value},Vals [x] us->∃ u,us=[u]/\RelV x u
 | _,_,.cons r .nil=>⟨_,rfl,r⟩
theorem Vals.two:∀ {x y:V}{us:List Value},Vals [x,y] us->∃ u v,us=[u,v]/\RelV x u/\RelV y v
 | _,_,_,.cons r (.cons q .nil)=>⟨_,_,rfl,r,q⟩
section
variable {X:Cx}{aa:List (Addr×Obj)}{U:St}{H:Hp}{s:Shared}{l b:Addr}{xs ys zs:List V}
theorem Inv.lset {af its':List Value}{n:Nat}{f:Array Value->Array Value}{t':Nat} (I:Inv X aa U H s) (hH:H l=some (.lst xs))
  (e:s.heap.get? l=some { cls:=.type "list", data:=.seq af.toArray n }) (hf:f af.toArray=its'.toArray) (hv:Vals ys its') (hz:ys.length<=sizeLine) :
  Inv X aa U (upd H l (.lst ys)) { s with heap:=s.heap.update l (mapSeq f),toks:=t' }:=by
 have q:=PySem.IsL.update e f
 rw [hf] at q
 refine I.write (x:=l) (e:=l) (by rw [hH];exact trivial) (.inl rfl) (λb' u hb hu=>(get?_update_other s.heap (mapSeq f) (Ne.symm hb)).trans hu) ⟨_,q⟩ ?_
 exact ⟨hz,its',_,hv,q⟩
theorem Inv.lnew {af:List Value}{t':Nat} (I:Inv X aa U H s) (hv:Vals ys af) (hz:ys.length<=sizeLine) :
  Inv X aa U (upd H s.heap.objs.size (.lst ys)) { s with heap:=s.heap.push { cls:=.type "list", data:=.seq af.toArray },toks:=t' } :=
 I.laid (λ_ _ q=>get?_push_of_some _ q) (le_refl _) ⟨hz,af,0,hv,get?_push_size _ rfl⟩
theorem Inv.fresh (I:Inv X aa U H s):H s.heap.objs.size=none:=I.hok.fresh (le_refl _)
theorem Inv.lstM (I:Inv X aa U H s) (hH:H l=some (.lst xs)):xs.length<=sizeLine/\∃ (af:List Value) (n:Nat),Vals xs af/\xs.length=af.length/\s.heap.get? l=some { cls:=.type "list", data:=.seq af.toArray n }:=by
 obtain ⟨z,af,n,r,e⟩:=I.hok l _ hH
 exact ⟨z,af,n,r,r.length,e⟩
theorem notLongL {n:Nat} (h:n<=sizeLine):listTooLong n=false:=by
 unfold listTooLong
 exact decide_eq_false (by omega)
end
section
variable {X:Cx}
def rAppend:V->List V->Hp->VK->Prop:=λx vs H Q=>∃ l xs y,x=.ref l/\vs=[y]/\H l=some (.lst xs)/\xs.length < sizeLine/\Q .non (upd H l (.lst (xs++[y])))
theorem gg':MtM X "list.append" rAppend:=by
 intro aa s U H x vs v us Q I rx rv h
 obtain ⟨l,xs,y,rfl,rfl,hH,hz,q⟩:=h
 cases rx
 obtain ⟨u,rfl,ru⟩:=rv.one
 obtain ⟨z,af,n,r,hl,e⟩:=I.lstM hH
 refine call_meets F.slot_list_append ⟨_,e,rfl⟩ F.entry_list_append (F.args_list_append_2 _ _) (PySem.list_append l af.toArray n u (by rw [size_toArray];omega)) ⟨e,?_⟩
 refine ⟨.non,_,I.lset (its':=af++[u]) hH e (by simp) (r.append (.cons ru .nil)) ?_,rfl,q⟩
 rw [length_append,List.length_singleton]
 omega
end
end L2
namespace Att
open PySem PySem.W PySem.Calls PyProof.Rows
theorem fh' {P:Params}{h:Heap}:∀ (ns:List Int) (vs:List Value),WellAll P h vs (ns.map WData.int)->IntsAre vs ns:=by
 intro ns
 induction ns with
 | nil =>
  intro vs w
  rw [List.map_nil] at w
  cases w
  exact .nil
 | cons n ns ih =>
  intro vs w
  rw [map_cons] at w
  cases w with
  | cons a b =>
   cases a
   exact .cons _ _ (ih _ b)
theorem kr' {l:OpenLaw}{n:Nat} (hn:l.most=some n){P:Params}{h:Heap}{args:List WData}{gr:List Value}
  (fx:l.row.toRowW.claim.pre args=true) (jN:WellAll P h gr args) :
  ∃ a vs ns,gr=[Value.ref a]/\args=[WData.list (ns.map WData.int)]/\h.get? a=some { cls:=.type "list", data:=.seq vs.toArray }/\IntsAre vs ns/\ns.length<=n:=by
 have qA:WShape.hasAll [] args [.list .int]=true:=(pre_splitW fx).1
 have hc:l.pre.holds [] { args:=args }=true:=(pre_splitW fx).2
 obtain ⟨d,r,rfl,h1,h2⟩:=hasAllW_cons qA
 obtain rfl:=hasAllW_nil h2
 obtain ⟨xs,rfl,h3⟩:=hasW_list h1
 obtain ⟨ns,rfl⟩:=items_int h3
 have aM:ns.length<=n:=by
  unfold OpenLaw.pre at hc
  have h4:(WTm.not (.lt (.lit (.int (n:Int))) (.len (.arg 0)))).holds [] { args:=[.list (ns.map .int)] }=true:=by
   have h4:=(holds_andW hc).1
   rw [hn] at h4
   exact h4
  have h5:=condW_of h4 (w_not (w_lt w_lit (w_len_list (w_arg rfl))))
  rw [length_map] at h5
  refine Nat.le_of_not_lt λq=>?_
  have q':(n:Int) < ((ns.length:Nat):Int):=by omega
  first
   | (rw [decide_eq_true q'] at h5;exact absurd h5 (by decide))
   | (simp at h5;omega)
 cases jN with
 | cons w1 w2 =>
  cases w2
  cases w1 with
  | list ho hall=>exact ⟨_,_,ns,rfl,rfl,ho,fh' ns _ hall,aM⟩
theorem ks' (l:OpenLaw) (args:List WData):l.row.toRowW.claim.post args (.bool true) args=true :=
 postW_of (r:=l.row.toRowW) (X:=(true == true))
  (show WShape.has [] (.bool true) .bool=true by first | rfl | decide | simp [WShape.has,WShape.arms,WShape.armsAll])
  (show (WTm.eq .res (.lit (.bool true))).value [] { args:=args,res:=some (.bool true),after:=args }=some (.bool (true == true)) from w_eq_bool (w_res rfl) w_lit) rfl
theorem qm' {l:OpenLaw}{n:Nat}{q:Program}{cq:List Str}{XP:(Str->Option Value)->Heap->Prop}{YP:World->Heap->Prop}{d:DefRec}
  (hn:l.most=some n) (gw:d.params.defaults=[])
  (call:∀ (w:World) (s₀ au:Shared) (mg mb:Str->Option Value) (fa:Addr) (o:Obj) (pm cd bC:Value) (a:Addr) (vs:List Value) (ns:List Int),
   Ground q cq [] XP w s₀ mg mb au.heap->YP w au.heap →
   au.heap.get? fa=some o->o.data=.func (docDef d.name d.params d.body d.scope pm cd bC)->au.heap.CodeRec cd d.name->mg d.name=some (.ref fa) →
   au.heap.get? a=some { cls:=.type "list", data:=.seq vs.toArray }->IntsAre vs ns->ns.length<=n->au.gens=#[] →
   codeAny (model l.prog w) callerA (.call (.ref fa) ⟨[.ref a],[]⟩) (λr s'=>r=.ok (.ret (.bool true))/\OldK au.heap s'.heap/\s'.os=au.os/\AllBare s'.gens) au) :
  WalkO q cq XP YP l.row.toRowW d [] (λf vs=>PySem.call f vs):=by
 intro w s₀ au mg mb G Y fa o pm cd bC dV kV ho hd aP hD gy hg args gr as fx u8 mQ jN mR
 obtain rfl:dV=.none:=Dflts.none hD gw
 obtain rfl:kV=.none:=Dflts.noKw hD
 obtain ⟨a,vs,ns,rfl,rfl,gz,ez,aM⟩:=kr' hn fx jN
 refine enter_call (codeAny_mono (call w s₀ au mg mb fa o pm cd bC a vs ns G Y ho (fd_plain hd) aP gy gz ez aM hg) λr s' hq=>?_)
 obtain ⟨rfl,h2,h3,h4⟩:=hq
 exact ⟨.inl ⟨.bool true,.bool true,[],rfl,λ_=>rfl,.bool true,ks' l _,λ_=>⟨List.Pairwise.nil,λ_ hm=>(nomatch hm)⟩⟩,h2,h3,h4⟩
end Att
namespace L2
open PySem PySem.Spec PyProof.Rows
theorem gh':∀ {vs:List Value}{ns:List Int},IntsAre vs ns->Vals (ns.map V.int) vs
 | _,_,.nil=>.nil
 | _,_,.cons n t h=>.cons ⟨t,rfl⟩ (gh' h)
def Only (H:Hp):Prop:=∀ b,H b=none\/∃ o xs,H b=some (.frz o (.lst xs))
noncomputable def defArgs (s:Stmt):Arguments:=match s with
 | .FunctionDef _ a _ _ _ _ _ _ _ _=>a
 | _=>{ posonlyargs:=[],args:=[],vararg:=none,kwonlyargs:=[],kw_defaults:=[],kwarg:=none,defaults:=[] }
noncomputable def defBody (s:Stmt):List Stmt:=match s with
 | .FunctionDef _ _ b _ _ _ _ _ _ _=>b
 | _=>[]
noncomputable def defScope (s:Stmt):Scope:=match s with
 | .FunctionDef _ _ _ _ _ _ sc _ _ _=>sc
 | _=>{ kind:=.function,names:=[],isGenerator:=false,isCoroutine:=false }
abbrev CX0:CXT:=λ_ _ _ _ _ _=>False
abbrev E0:XK:=λ_ _ _=>False
theorem pass0 {X:Cx}:Passes CX0 X E0:=λ_ _ _ _ _ _ _ h=>h.elim
structure Fun (K:PySem.W.Frag) (x qual:Str) (st:Stmt) (f:Addr) (fd:FuncData):Prop where
 ex:∃ (oc:Value) (od:Option Addr) (kV bC pm:Value) (an:Option Addr) (ax ct:Value) (cP:Array (Option Value)),
  fd=fnOf x qual (defArgs st) (defBody st) (defScope st) .none kV bC pm an ax ct/\K.lookup f=some ⟨oc,od,.func fd,cP⟩/\codeIn K ax qual=true
 kp:keepIn K (.ref f)=true
section
variable {P:Program}{w:World}{K:PySem.W.Frag}{mg:Str->Option Value}{base:Heap}
theorem Fun.ok {x qual:Str}{st:Stmt}{f:Addr}{fd:FuncData}{N ps:List Str}{k:Nat}{sp:Sp} (F:Fun K x qual st f fd) (S:FnScope N ps (defScope st)) (len:∀ vs H Q E,sp vs H Q E->vs.length=ps.length)
  (cQ:∀ (ax:Value) (A:Around) (outer:List Env) (s:Shared) (H:Hp) (vs:List V) (Q:VK) (E:XK),Room k (A.deeper (envOfC qual (defScope st) s.heap.objs.size f ax))->sp vs H Q E →
   ∃ t,PSs (cxOf CX0 P w K mg base N qual (defScope st) f ax A outer s H E).nox (defBody st) t/\t { nx:=λ_ H'=>Q .non H',rt:=Q } (start N vs) H):FnOk P w K mg base CX0 (k+1) f fd ps sp:=by
 obtain ⟨oc,od,kV,bC,pm,an,ax,ct,cP,rfl,lk,aP⟩:=F.ex
 refine np' lk aP S len λA outer s H vs Q E hr dm=>?_
 obtain ⟨t,h,q⟩:=cQ ax A outer s H vs Q E hr dm
 exact ⟨t,h.nox,q⟩
theorem Fun.binds {x qual:Str}{st:Stmt}{f:Addr}{fd:FuncData}{ps:List Str} (F:Fun K x qual st f fd)
  (h:∀ (kV bC pm:Value) (an:Option Addr) (ax ct:Value) (us:List Value),us.length=ps.length->bindArgs (fnOf x qual (defArgs st) (defBody st) (defScope st) .none kV bC pm an ax ct) ⟨us,[]⟩=pure (ps.zip us)):Binds K fd ps []:=by
 obtain ⟨oc,od,kV,bC,pm,an,ax,ct,cP,rfl,lk,aP⟩:=F.ex
 exact .all (h kV bC pm an ax ct)
theorem aL' {x qual:Str}{st:Stmt}{f:Addr}{oc:Value}{od an:Option Addr}{cP:Array (Option Value)}{kV bC pm ax ct:Value} (l:K.lookup f=some ⟨oc,od,.func (fnOf x qual (defArgs st) (defBody st) (defScope st) .none kV bC pm an ax ct),cP⟩)
  (c:codeIn K ax qual=true) (k:keepIn K (.ref f)=true):Fun K x qual st f (fnOf x qual (defArgs st) (defBody st) (defScope st) .none kV bC pm an ax ct):=⟨⟨oc,od,kV,bC,pm,an,ax,ct,cP,rfl,l,c⟩,k⟩
end
theorem ns' {A:Around}{k:Nat} (hr:Room k A):A.units+1 < cLine:=Nat.lt_of_le_of_lt (Nat.add_le_add_left (by decide:1<=64) _) hr.units
section
variable {X:Cx}
theorem pv (i:Nat){x:Str}{pos:Pos} (hN:X.N[i]?=some x:=by rfl) (hv:visB X.env.scope x=true:=by rfl) (hd:(x == ("__debug__":Str))=false:=by decide)
  (aP:(x == ("__classdict__":Str))=false:=by decide):PE X (.Name x pos) (tVar i):=o7' hN (visI hv) hd aP
end
theorem iteF {A B:Prop} (h:B):if false=true then A else B:=by
 rw [if_neg Bool.false_ne_true]
 exact h
theorem iteT {A B:Prop} (h:A):if true=true then A else B:=by
 rw [if_pos rfl]
 exact h
def Same (H H':Hp):Prop:=∀ b o,H b=some o->H' b=some o
theorem Same.refl (H:Hp):Same H H:=λ_ _ h=>h
theorem Same.trans {H H1 H2:Hp} (a:Same H H1) (b:Same H1 H2):Same H H2:=λc o h=>b c o (a c o h)
theorem Same.free {H H':Hp} (e:Same H H'){l:Addr} (h:H' l=Option.none):H l=Option.none:=by
 cases q:H l with
 | none=>rfl
 | some o =>
  rw [e l o q] at h
  cases h
section
variable {κ:Type} [DecidableEq κ]
noncomputable def valV (ah:List (κ×V)) (k:κ):Option V:=(ah.find? λkv=>decide (kv.1=k)).map (·.2)
noncomputable def putK (ah:List (κ×V)) (k:κ) (v:V):List (κ×V) :=
 if (ah.any λkv=>decide (kv.1=k))=true then ah.map (λkv=>if kv.1=k then (kv.1,v) else kv) else ah++[(k,v)]
theorem dn' {p:κ×V}{r:List (κ×V)}{k:κ} (e:p.1=k):valV (p::r) k=some p.2:=by simp [valV,find?_cons,e]
theorem do' {p:κ×V}{r:List (κ×V)}{k:κ} (e:¬ p.1=k):valV (p::r) k=valV r k:=by simp [valV,find?_cons,e]
theorem dp' (k:κ):∀ ah:List (κ×V),(ah.any λkv=>decide (kv.1=k))=(valV ah k).isSome
 | []=>rfl
 | p::r=>by
  rw [any_cons]
  by_cases e:p.1=k
  ·simp only [dn' e,decide_eq_true e,Bool.true_or,Option.isSome_some]
  ·rw [do' e,decide_eq_false e,Bool.false_or];exact dp' k r
theorem ez' (ah:List (κ×V)) (k:κ) (v:V):(putK ah k v).length<=ah.length+1:=by
 unfold putK
 split
 ·rw [length_map];omega
 ·rw [length_append,length_cons,List.length_nil];omega
theorem l9' {ah:List (κ×V)}{k:κ} (v:V) (h:valV ah k=none):putK ah k v=ah++[(k,v)]:=by
 unfold putK
 rw [dp',h]
 exact if_neg (by decide)
theorem RelO.isSome_eq {o:Option V}{u:Option Value} (r:RelO o u):o.isSome=u.isSome:=by
 cases o with
 | none=>cases u with
  | none=>rfl
  | some _=>exact (show False from r).elim
 | some _=>cases u with
  | none=>exact (show False from r).elim
  | some _=>rfl
theorem KV.val {ah:List (κ×V)}{vs:List (κ×Value)} (r:KV ah vs) (k:κ):RelO (valV ah k) (valueAt vs k):=by
 unfold KV at r
 induction r with
 | nil=>exact True.intro
 | @cons p q ps qs h t ih =>
  obtain ⟨h1,h2⟩:=h
  by_cases e:p.1=k
  ·have e':q.1=k:=h1.symm.trans e
   have b:valueAt (q::qs) k=some q.2:=by simp [valueAt,find?_cons,e']
   rw [dn' e,b];exact h2
  ·have e':¬ q.1=k:=λz=>e (h1.trans z)
   have b:valueAt (q::qs) k=valueAt qs k:=by simp [valueAt,find?_cons,e']
   rw [do' e,b];exact ih
theorem KV.any {ah:List (κ×V)}{vs:List (κ×Value)} (r:KV ah vs) (k:κ):(ah.any λkv=>decide (kv.1=k))=vs.any λkv=>decide (kv.1=k):=by
 unfold KV at r
 induction r with
 | nil=>rfl
 | cons h t ih=>rw [any_cons,any_cons,ih,h.1]
theorem KV.repl {ah:List (κ×V)}{vs:List (κ×Value)} (r:KV ah vs) (k:κ){y:V}{u:Value} (ry:RelV y u) :
  KV (ah.map λkv=>if kv.1=k then (kv.1,y) else kv) (vs.map λkv=>if kv.1=k then (kv.1,u) else kv):=by
 unfold KV at r ⊢
 induction r with
 | nil=>exact .nil
 | @cons p q ps qs h t ih =>
  rw [map_cons,map_cons]
  refine .cons ?_ ih
  obtain ⟨h1,h2⟩:=h
  by_cases e:p.1=k
  ·rw [if_pos e,if_pos (h1.symm.trans e)];exact ⟨h1,ry⟩
  ·rw [if_neg e,if_neg (λz=>e (h1.trans z))];exact ⟨h1,h2⟩
theorem KV.put {ah:List (κ×V)}{vs:List (κ×Value)} (r:KV ah vs) (k:κ){y:V}{u:Value} (ry:RelV y u):KV (putK ah k y) (stored vs k u):=by
 unfold putK stored
 rw [r.any k]
 by_cases e:(vs.any λkv=>decide (kv.1=k))=true
 ·rw [if_pos e,if_pos e];exact r.repl k ry
 ·rw [if_neg e,if_neg e];exact snoc r ⟨rfl,ry⟩
theorem KV.keys {ah:List (κ×V)}{vs:List (κ×Value)} (r:KV ah vs):ah.map (·.1)=vs.map (·.1):=by
 unfold KV at r
 induction r with
 | nil=>rfl
 | cons h t ih=>rw [map_cons,map_cons,ih,h.1]
theorem KV.length {ah:List (κ×V)}{vs:List (κ×Value)} (r:KV ah vs):ah.length=vs.length:=Paired.length r
end
theorem jx' {P:Program}{w:World}{k:Key}{u:Value} (r:RelV (kV k) u):(mixKind P w).is k u=true:=by
 cases k with
 | inl i=>obtain ⟨t,e⟩:=(show ∃ t,u=Value.int i t from r);subst e;exact im' P w i t
 | inr x=>obtain ⟨t,e⟩:=(show ∃ t,u=Value.str x t from r);subst e;exact io' P w x t
theorem gi' {P:Program}{w:World}:∀ {ks:List Key}{us:List Value},Vals (ks.map kV) us->ItemsAre (mixKind P w) ks us
 | [],_,r=>by rw [List.map_nil] at r;cases r;exact .nil
 | k::ks,_,r=>by
  rw [map_cons] at r
  cases r with
  | cons h t=>exact .cons (jx' h) (gi' t)
abbrev KT (H:Hp):List (List Key×V)->List (List Key×Addr×Value)->Prop:=Paired λp q=>p.1=q.1/\H q.2.1=some (.tup (p.1.map kV))/\RelV p.2 q.2.2
theorem KT.val {H:Hp}{ah:List (List Key×V)}{xs:List (List Key×Addr×Value)} (r:KT H ah xs) (k:List Key):RelO (valV ah k) ((atKey xs k).map (·.2)):=by
 induction r with
 | nil=>exact True.intro
 | @cons p q ps qs h t ih =>
  obtain ⟨h1,_,h2⟩:=h
  by_cases e:p.1=k
  ·have e':q.1=k:=h1.symm.trans e
   have b:atKey (q::qs) k=some q.2:=by simp [atKey,find?_cons,e']
   rw [dn' e,b];exact h2
  ·have e':¬ q.1=k:=λz=>e (h1.trans z)
   have b:atKey (q::qs) k=atKey qs k:=by simp [atKey,find?_cons,e']
   rw [do' e,b];exact ih
theorem KT.repl {H:Hp}{ah:List (List Key×V)}{xs:List (List Key×Addr×Value)} (r:KT H ah xs) (k:List Key){y:V}{u:Value} (ry:RelV y u) :
  KT H (ah.map λkv=>if kv.1=k then (kv.1,y) else kv) (xs.map (putAt k u)):=by
 induction r with
 | nil=>exact .nil
 | @cons p q ps qs h t ih =>
  rw [map_cons,map_cons]
  refine .cons ?_ ih
  obtain ⟨h1,h2,h3⟩:=h
  unfold putAt
  by_cases e:p.1=k
  ·rw [if_pos e,if_pos (h1.symm.trans e)];exact ⟨h1,h2,ry⟩
  ·rw [if_neg e,if_neg (λz=>e (h1.trans z))];exact ⟨h1,h2,h3⟩
theorem KT.put {H:Hp}{ah:List (List Key×V)}{xs:List (List Key×Addr×Value)} (r:KT H ah xs) (k:List Key){b:Addr}{y:V}{u:Value} (hb:H b=some (.tup (k.map kV))) (ry:RelV y u) :
  KT H (putK ah k y) (storedH xs k b u):=by
 have e:(ah.any λkv=>decide (kv.1=k))=(atKey xs k).isSome:=by
  rw [dp',(r.val k).isSome_eq,Option.isSome_map]
 unfold putK storedH
 rw [e]
 by_cases q:(atKey xs k).isSome=true
 ·rw [if_pos q,if_pos q];exact r.repl k ry
 ·rw [if_neg q,if_neg q];exact snoc r ⟨rfl,hb,ry⟩
theorem KT.keeps {H H':Hp}{ah:List (List Key×V)}{xs:List (List Key×Addr×Value)} (r:KT H ah xs) (ht:∀ b ys,H b=some (.tup ys)->H' b=some (.tup ys)):KT H' ah xs :=
 Paired.mapP r λ_ _ z=>⟨z.1,ht _ _ z.2.1,z.2.2⟩
section
variable {P:Program}{w:World}{H:Hp}{h:Heap}{a:Addr}
theorem nt' {u:HO} (ok:HOk P w H h) (e:Rd H a u):ObjOk P w H h a u:=e.ok ok
theorem nu' {ah:List (Key×V)} (ok:HOk P w H h) (e:Rd H a (.dK ah)):ah.length<=sizeLine/\(a == sysModules)=false/\∃ vs,KV ah vs/\h.DictOf (mixKind P w) a vs :=
 show ObjOk P w H h a (.dK ah) from nt' ok e
theorem jy' {ah:List (Key×V)} (ok:HOk P w H h) (e:H a=some (.dK ah)):ah.length<=sizeLine/\(a == sysModules)=false/\∃ vs,KV ah vs/\h.DictOf (mixKind P w) a vs:=nu' ok (.inl e)
theorem g9' {ks:List Key} (ok:HOk P w H h) (e:H a=some (.tup (ks.map kV))):(tupleKind (mixKind P w)).is h ks a:=by
 obtain ⟨_,af,r,o,h1,h2,n,h3⟩:=(show ObjOk P w H h a (.tup (ks.map kV)) from ok a _ e)
 exact ⟨o,af.toArray,n,h1,h2,h3,by simpa using gi' r⟩
theorem nv' {ah:List (List Key×V)} (ok:HOk P w H h) (e:Rd H a (.dT ah)):ah.length<=sizeLine/\(a == sysModules)=false ∧
  ∃ xs,KT H ah xs/\h.DictOfH (tupleKind (mixKind P w)) a xs:=by
 obtain ⟨z,y,xs,r,o,es,ep,h1,h2,h3,h4,h5⟩:=(show ObjOk P w H h a (.dT ah) from nt' ok e)
 refine ⟨z,y,xs,r,o,es,ep,h1,h2,h3,h4,λx hx=>?_,h5⟩
 have all:∀ {l:List (List Key×V)}{m:List (List Key×Addr×Value)},KT H l m->∀ x∈m,(tupleKind (mixKind P w)).is h x.1 x.2.1:=by
  intro l m q
  induction q with
  | nil=>intro x hx;exact nomatch hx
  | @cons p q ps qs hq t ih =>
   intro x hx
   rcases mem_cons.mp hx with e | hx
   ·subst e
    exact g9' ok (by rw [← hq.1];exact hq.2.1)
   ·exact ih x hx
 exact all r x hx
theorem qv' {ah:List (List Key×V)} (ok:HOk P w H h) (e:H a=some (.dT ah)):ah.length<=sizeLine/\(a == sysModules)=false ∧
  ∃ xs,KT H ah xs/\h.DictOfH (tupleKind (mixKind P w)) a xs:=nv' ok (.inl e)
end
def DGet (H:Hp) (a:Addr) (y:V) (r:Option V):Prop :=
 (∃ ah k,Rd H a (.dK ah)/\y=kV k/\r=valV ah k)\/∃ ah k b,Rd H a (.dT ah)/\y=.ref b/\H b=some (.tup (k.map kV))/\r=valV ah k
def DPut (H:Hp) (a:Addr) (y v:V) (H':Hp):Prop :=
 (∃ ah k,H a=some (.dK ah)/\y=kV k/\ah.length < sizeLine/\H'=upd H a (.dK (putK ah k v))) ∨
 ∃ ah k b,H a=some (.dT ah)/\y=.ref b/\H b=some (.tup (k.map kV))/\ah.length < sizeLine/\H'=upd H a (.dT (putK ah k v))
theorem DGet.k {H:Hp}{a:Addr}{ah:List (Key×V)}{k:Key} (e:H a=some (.dK ah)):DGet H a (kV k) (valV ah k):=.inl ⟨ah,k,.inl e,rfl,rfl⟩
theorem DPut.k {H:Hp}{a:Addr}{ah:List (Key×V)}{k:Key}{v:V} (e:H a=some (.dK ah)) (hl:ah.length < sizeLine):DPut H a (kV k) v (upd H a (.dK (putK ah k v))):=.inl ⟨ah,k,e,rfl,hl,rfl⟩
section
variable {X:Cx}{aa:List (Addr×Obj)}{U:St}{H:Hp}{s:Shared}{a:Addr}{y v:V}{u r:Value}{o:Option V}{A:Around}{E:Value->Shared->Prop}
theorem Inv.big (I:Inv X aa U H s):sysModules < s.heap.objs.size:=by
 have h:mainGlobals < s.heap.objs.size:=(I.mod.glob.keeps I.bk).lt
 exact lt_trans (by decide) h
theorem nU' {Q:Value->Shared->Prop} (hu:A.units+1 < cLine) (I:Inv X aa U H s) (g:DGet H a y o) (ry:RelV y u) (h:∀ s',Inv X aa U H s'->Q (.bool (!o.isSome)) s') :
  wpAny (model X.prog X.w) A (compareOp .NotIn u (.ref a)) Q E s:=by
 rcases g with ⟨ah,k,e,ey,l⟩ | ⟨ah,k,b,e,ey,eb,l⟩
 ·subst ey
  obtain ⟨z,hd,vs,rel,dd⟩:=nu' I.hok e
  refine wpAny_notIn_of (jx' ry) hd dd.mapOf ?_
  rw [← (rel.val k).isSome_eq,← l]
  exact h _ (I.tok _)
 ·subst ey
  cases (show u=Value.ref b from ry)
  obtain ⟨z,hd,xs,rel,dd⟩:=nv' I.hok e
  refine wpAny_notIn_heap (tupleKind_room_in1 hu) (g9' I.hok eb) hd dd ?_
  have q:=(rel.val k).isSome_eq
  rw [Option.isSome_map] at q
  rw [← q,← l]
  exact h _ (I.tok _)
theorem fN' {h':Heap}{t':Nat}{ob:HO} (I:Inv X aa U H s) (mu:Mut (H a)) (hs:Heap.SameBut a s.heap h') (he:∃ q,h'.get? a=some q) (new:ObjOk X.prog X.w (upd H a ob) h' a ob) :
  Inv X aa U (upd H a ob) { s with heap:=h',toks:=t' } :=
 I.write (x:=a) (e:=a) mu (.inl rfl) (λb q hb z=>(hs.2 b hb).trans z) he new
theorem pB' {P:Program}{w:World}{H':Hp}{h':Heap}{ah:List (Key×V)}{vs:List (Key×Value)} (z:ah.length<=sizeLine) (hd:(a == sysModules)=false) (rel:KV ah vs) (dd:h'.DictOf (mixKind P w) a vs) :
  ObjOk P w H' h' a (.dK ah):=⟨z,hd,vs,rel,dd⟩
theorem kt' {H':Hp}{Q:Unit->Shared->Prop} (hu:A.units+1 < cLine) (I:Inv X aa U H s) (g:DPut H a y v H') (ry:RelV y u) (rv:RelV v r) (h:∀ s',Inv X aa U H' s'->Q () s') :
  wpAny (model X.prog X.w) A (setItem (.ref a) u r) Q E s:=by
 rcases g with ⟨ah,k,e,ey,l,eH⟩ | ⟨ah,k,b,e,ey,eb,l,eH⟩
 ·subst ey eH
  obtain ⟨z,hd,vs,rel,dd⟩:=jy' I.hok e
  have hz:vs.length<=sizeLine:=by rw [← rel.length];exact z
  have hl:(putK ah k v).length<=sizeLine:=by have:=ez' ah k v;omega
  refine wpAny_setItem_pairs (hsz:=hz) (jx' ry) dd λh' ir hs=>h _ ?_
  have he:∃ q,h'.get? a=some q:=let ⟨q,_,_,hq,_⟩:=ir;⟨q,hq⟩
  exact fN' I (by rw [e];exact True.intro) hs he (pB' hl hd (rel.put k rv) ir)
 ·subst ey eH
  cases (show u=Value.ref b from ry)
  obtain ⟨z,hd,xs,rel,dd⟩:=qv' I.hok e
  have hz:xs.length<=sizeLine:=by rw [← Paired.length rel];exact z
  have hl:(putK ah k v).length<=sizeLine:=by have:=ez' ah k v;omega
  refine wpAny_setItem_heap (hsz:=hz) (tupleKind_room_in1 hu) (g9' I.hok eb) dd λh' ir hs=>h _ ?_
  obtain ⟨q,es,ep,hq,h2,h3,h4,_,h5⟩:=ir
  refine fN' I (by rw [e];exact True.intro) hs ⟨q,hq⟩ ⟨hl,hd,_,(rel.put k eb rv).keeps λc ys ec=>?_,q,es,ep,hq,h2,h3,h4,h5⟩
  rw [ae' (qn' ec e (λz=>nomatch z))]
  exact ec
end
noncomputable def tDNotIn (ty td:TE):TE:=λU H Q=>ty U H λy H1=>td U H1 λx H2=>∃ a o,x=.ref a/\DGet H2 a y o/\Q (.bl (!o.isSome)) H2
noncomputable def sDPut (td ty tv:TE):TS:=λD U H=>tv U H λv H1=>td U H1 λx H2=>ty U H2 λy H3=>∃ a H4,x=.ref a/\DPut H3 a y v H4/\D.nx U H4
section
variable {X:Cx}{o i e value:Expr}{pos az mM:Pos}{td ty tv:TE}
theorem ku' (hu:X.A.units+1 < cLine) (hi:PE X i ty) (ho:PE X o td):PC X .NotIn i o (tDNotIn ty td):=by
 intro aa s U H Q I h
 refine thn (hi aa s U H _ I h) λiv s1 ⟨y,H1,I1,ry,q1⟩=>thn (ho aa s1 U H1 _ I1 q1) λu s2 ⟨x,H2,I2,rx,a,ov,ex,g,q2⟩=>?_
 subst ex
 obtain rfl:u=Value.ref a:=rx
 exact nU' hu I2 g ry λs3 I3=>⟨.bl (!ov.isSome),H2,I3,rfl,q2⟩
theorem nV' (hu:X.A.units+1 < cLine) (ho:PE X o td) (hi:PE X i ty) (hv:PE X value tv) (hs:swapsWith value (some (.Subscript o i az)) pos.line X.env=pure false) :
  PS X (.Assign [.Subscript o i az] value pos) (sDPut td ty tv):=by
 intro aa s U H D I h
 refine wpAny_Assign_Subscript (thn (hv aa s U H _ I h) λr s1 ⟨v,H1,I1,rv,q1⟩=>thn (ho aa s1 U H1 _ I1 q1) λu s2 ⟨x,H2,I2,rx,q2⟩=>thn (hi aa s2 U H2 _ I2 q2) λiv s3 ⟨y,H3,I3,ry,a,H4,ex,g,q3⟩=>?_) hs
 subst ex
 obtain rfl:u=Value.ref a:=rx
 exact kt' hu I3 g ry rv λs4 I4=>⟨U,H4,I4,q3⟩
end
theorem ma' {P:Program}{w:World}{H:Hp} (h:Heap) (hb:sysModules < h.objs.size):ObjOk P w H (h.push { cls:=.type "dict", data:=.dict #[] }) h.objs.size (.dK []) :=
 ⟨zero_le _,beq_eq_false_iff_ne.mpr (Ne.symm (ne_of_lt hb)),[],.nil,Heap.DictOf.new h⟩
def tDNewK:TE:=λ_ H Q=>∀ p,H p=none->Q (.ref p) (upd H p (.dK []))
section
variable {X:Cx}{pos:Pos}
theorem mb':PE X (.Dict [] [] pos) tDNewK:=λaa s U H Q I h =>
 wpAny_Dict_empty ⟨.ref s.heap.objs.size,_,I.laid (a:=s.heap.objs.size) (o:=.dK []) (t':=s.toks) (λ_ _ q=>get?_push_of_some _ q) (le_refl _) (ma' s.heap I.big),rfl,h _ (I.hok.fresh (le_refl _))⟩
end
structure M1 (X:Cx) (o:Expr) (m:Str) (ba:Pos) (e:Expr) (aC:Pos):Prop where
 base:attributeBase o m X.env (eval o X.env)=eval o X.env
 few:((backTo aC (starEach [e] X.env)).all (λx=>!x.1)&&(backToKw aC (keywordEach [] X.env)).all (λx=>x.1.isSome)
  &&decide (([e]:List Expr).length+([]:List Keyword).length+(if ([]:List Keyword).isEmpty then 0 else 1) < 30))=true
 line:(ba.endLine == aC.line)=true
 trees:backTo aC (starEach [e] X.env)=[(false,eval e X.env)]
structure M2 (X:Cx) (o:Expr) (m:Str) (ba:Pos) (e f:Expr) (aC:Pos):Prop where
 base:attributeBase o m X.env (eval o X.env)=eval o X.env
 few:((backTo aC (starEach [e,f] X.env)).all (λx=>!x.1)&&(backToKw aC (keywordEach [] X.env)).all (λx=>x.1.isSome)
  &&decide (([e,f]:List Expr).length+([]:List Keyword).length+(if ([]:List Keyword).isEmpty then 0 else 1) < 30))=true
 line:(ba.endLine == aC.line)=true
 trees:backTo aC (starEach [e,f] X.env)=[(false,eval e X.env),(false,eval f X.env)]
end L2
set_option maxHeartbeats 4000000
namespace DL
open PySem PySem.Spec PyProof.Rows L2
inductive D where
 | non | bl (b:Bool) | int (i:Int) | str (x:Str) | tup (xs:List D) | lst (xs:List D)
def RdK (K:PySem.W.Frag) (I:Hp) (a:Addr) (xs:List V):Prop:=Rd I a (.lst xs)\/∃ (af:List Value) (n:Nat),K.lookup a=some { cls:=.type "list", data:=.seq af.toArray n }/\Vals xs af/\af.length<=sizeLine
theorem RdK.of {K:PySem.W.Frag}{I:Hp}{a:Addr}{xs:List V} (h:I a=some (.lst xs)):RdK K I a xs:=.inl (.inl h)
theorem RdK.sq {K:PySem.W.Frag}{I:Hp}{a:Addr}{xs:List V} (h:RdK K I a xs):SqL K I a xs:=by
 rcases h with h | ⟨af,n,h1,h2,h3⟩
 ·exact .inl h
 ·exact .inr ⟨_,af.toArray,n,h1,rfl,rfl,rfl,by simpa using h3,by simpa using h2⟩
mutual
def Is (K:PySem.W.Frag) (I:Hp):D->V->Prop
 | .non,v=>v=.non
 | .bl b,v=>v=.bl b
 | .int i,v=>v=.int i
 | .str x,v=>v=.str x
 | .tup ds,v=>∃ a xs,v=.ref a/\SqT K I a xs/\IsA K I ds xs
 | .lst ds,v=>∃ a xs,v=.ref a/\RdK K I a xs/\IsA K I ds xs
def IsA (K:PySem.W.Frag) (I:Hp):List D->List V->Prop
 | [],xs=>xs=[]
 | d::ds,xs=>∃ x r,xs=x::r/\Is K I d x/\IsA K I ds r
end
section
variable {K:PySem.W.Frag}{I I' H:Hp}
theorem Same.rd {a:Addr}{o:HO} (e:Same I I') (h:Rd I a o):Rd I' a o:=by
 rcases h with h | ⟨u,h⟩
 ·exact .inl (e _ _ h)
 ·exact .inr ⟨u,e _ _ h⟩
theorem Same.rdK {a:Addr}{xs:List V} (e:Same I I') (h:RdK K I a xs):RdK K I' a xs:=by
 rcases h with h | h
 ·exact .inl (Same.rd e h)
 ·exact .inr h
theorem Same.sqT {a:Addr}{xs:List V} (e:Same I I') (h:SqT K I a xs):SqT K I' a xs:=by
 rcases h with h | h
 ·exact .inl (Same.rd e h)
 ·exact .inr h
mutual
theorem Is.mono (e:Same I I'):∀ {d:D}{v:V},Is K I d v->Is K I' d v
 | .non,_,h=>by rw [Is] at h ⊢;exact h
 | .bl _,_,h=>by rw [Is] at h ⊢;exact h
 | .int _,_,h=>by rw [Is] at h ⊢;exact h
 | .str _,_,h=>by rw [Is] at h ⊢;exact h
 | .tup ds,v,h=>by
  rw [Is] at h ⊢
  obtain ⟨a,xs,e1,e2,e3⟩:=h
  exact ⟨a,xs,e1,Same.sqT e e2,IsA.mono e e3⟩
 | .lst ds,v,h=>by
  rw [Is] at h ⊢
  obtain ⟨a,xs,e1,e2,e3⟩:=h
  exact ⟨a,xs,e1,Same.rdK e e2,IsA.mono e e3⟩
theorem IsA.mono (e:Same I I'):∀ {ds:List D}{xs:List V},IsA K I ds xs->IsA K I' ds xs
 | [],_,h=>by rw [IsA] at h ⊢;exact h
 | d::ds,xs,h=>by
  rw [IsA] at h ⊢
  obtain ⟨x,r,e1,e2,e3⟩:=h
  exact ⟨x,r,e1,Is.mono e e2,IsA.mono e e3⟩
end
theorem IsA.nil:IsA K I [] []:=by rw [IsA]
theorem IsA.cons {d:D}{ds:List D}{x:V}{xs:List V} (h:Is K I d x) (t:IsA K I ds xs):IsA K I (d::ds) (x::xs):=by
 rw [IsA];exact ⟨x,xs,rfl,h,t⟩
theorem IsA.nil_inv {xs:List V} (h:IsA K I [] xs):xs=[]:=by rw [IsA] at h;exact h
theorem IsA.cons_inv {d:D}{ds:List D}{xs:List V} (h:IsA K I (d::ds) xs):∃ x r,xs=x::r/\Is K I d x/\IsA K I ds r:=by rw [IsA] at h;exact h
theorem IsA.length:∀ {ds:List D}{xs:List V},IsA K I ds xs->ds.length=xs.length
 | [],xs,h=>by rw [h.nil_inv]<;>rfl
 | d::ds,xs,h=>by
  obtain ⟨x,r,rfl,_,t⟩:=h.cons_inv
  simp [IsA.length t]
theorem IsA.get:∀ {ds:List D}{xs:List V}{i:Nat}{d:D},IsA K I ds xs->ds[i]?=some d->∃ x,xs[i]?=some x/\Is K I d x
 | [],xs,i,d,h,e=>by simp at e
 | c::ds,xs,0,d,h,e=>by
  obtain ⟨x,r,rfl,hx,t⟩:=h.cons_inv
  simp at e;subst e
  exact ⟨x,rfl,hx⟩
 | c::ds,xs,i+1,d,h,e=>by
  obtain ⟨x,r,rfl,hx,t⟩:=h.cons_inv
  obtain ⟨y,e1,e2⟩:=IsA.get (i:=i) t (by simpa using e)
  exact ⟨y,by simpa using e1,e2⟩
theorem IsA.append:∀ {ds es:List D}{xs ys:List V},IsA K I ds xs->IsA K I es ys->IsA K I (ds++es) (xs++ys)
 | [],es,xs,ys,h,t=>by rw [h.nil_inv];exact t
 | d::ds,es,xs,ys,h,t=>by
  obtain ⟨x,r,rfl,hx,h'⟩:=h.cons_inv
  exact IsA.cons hx (IsA.append h' t)
theorem IsA.take:∀ {ds:List D}{xs:List V} (n:Nat),IsA K I ds xs->IsA K I (ds.take n) (xs.take n)
 | ds,xs,0,h=>by rw [take_zero,take_zero];exact IsA.nil
 | [],xs,n+1,h=>by rw [h.nil_inv];exact IsA.nil
 | d::ds,xs,n+1,h=>by
  obtain ⟨x,r,rfl,hx,h'⟩:=h.cons_inv
  rw [List.take_succ_cons,List.take_succ_cons]
  exact IsA.cons hx (IsA.take n h')
theorem IsA.drop:∀ {ds:List D}{xs:List V} (n:Nat),IsA K I ds xs->IsA K I (ds.drop n) (xs.drop n)
 | ds,xs,0,h=>by rw [drop_zero,drop_zero];exact h
 | [],xs,n+1,h=>by rw [h.nil_inv];exact IsA.nil
 | d::ds,xs,n+1,h=>by
  obtain ⟨x,r,rfl,hx,h'⟩:=h.cons_inv
  rw [drop_succ_cons,drop_succ_cons]
  exact IsA.drop n h'
theorem IsA.set {d:D}{x:V} (q:Is K I d x):∀ {ds:List D}{xs:List V} (n:Nat),IsA K I ds xs->IsA K I (ds.set n d) (xs.set n x)
 | [],xs,n,h=>by rw [h.nil_inv];exact IsA.nil
 | c::ds,xs,0,h=>by
  obtain ⟨y,r,rfl,hx,h'⟩:=h.cons_inv
  exact IsA.cons q h'
 | c::ds,xs,n+1,h=>by
  obtain ⟨y,r,rfl,hx,h'⟩:=h.cons_inv
  exact IsA.cons hx (IsA.set q n h')
theorem IsA.reverse:∀ {ds:List D}{xs:List V},IsA K I ds xs->IsA K I ds.reverse xs.reverse
 | [],xs,h=>by rw [h.nil_inv];exact IsA.nil
 | d::ds,xs,h=>by
  obtain ⟨x,r,rfl,hx,h'⟩:=h.cons_inv
  rw [reverse_cons,reverse_cons]
  exact IsA.append (IsA.reverse h') (IsA.cons hx IsA.nil)
theorem IsA.one {d:D}{xs:List V} (h:IsA K I [d] xs):∃ x,xs=[x]/\Is K I d x:=by
 obtain ⟨x,r,rfl,hx,t⟩:=h.cons_inv
 rw [t.nil_inv]
 exact ⟨x,rfl,hx⟩
theorem IsA.two {d e:D}{xs:List V} (h:IsA K I [d,e] xs):∃ x y,xs=[x,y]/\Is K I d x/\Is K I e y:=by
 obtain ⟨x,r,rfl,hx,t⟩:=h.cons_inv
 obtain ⟨y,rfl,hy⟩:=t.one
 exact ⟨x,y,rfl,hx,hy⟩
theorem al' {i:Int}{v:V} (h:Is K I (.int i) v):v=.int i:=by rw [Is] at h;exact h
theorem a3' {i:Bool}{v:V} (h:Is K I (.bl i) v):v=.bl i:=by rw [Is] at h;exact h
theorem by' {i:Str}{v:V} (h:Is K I (.str i) v):v=.str i:=by rw [Is] at h;exact h
theorem cf' {v:V} (h:Is K I .non v):v=.non:=by rw [Is] at h;exact h
theorem av' {ds:List D}{v:V} (h:Is K I (.tup ds) v):∃ a xs,v=.ref a/\SqT K I a xs/\IsA K I ds xs:=by rw [Is] at h;exact h
theorem ar' {ds:List D}{v:V} (h:Is K I (.lst ds) v):∃ a xs,v=.ref a/\RdK K I a xs/\IsA K I ds xs:=by rw [Is] at h;exact h
theorem Is.int (i:Int):Is K I (.int i) (.int i):=by rw [Is]
theorem Is.bl (i:Bool):Is K I (.bl i) (.bl i):=by rw [Is]
theorem Is.str (i:Str):Is K I (.str i) (.str i):=by rw [Is]
theorem Is.non:Is K I .non .non:=by rw [Is]
theorem Is.tup {ds:List D}{a:Addr}{xs:List V} (h:SqT K I a xs) (t:IsA K I ds xs):Is K I (.tup ds) (.ref a):=by rw [Is];exact ⟨a,xs,rfl,h,t⟩
theorem Is.lst {ds:List D}{a:Addr}{xs:List V} (h:RdK K I a xs) (t:IsA K I ds xs):Is K I (.lst ds) (.ref a):=by rw [Is];exact ⟨a,xs,rfl,h,t⟩
end
inductive R where
 | val (d:D) | own (ds:List D) | bor (ds:List D) | fro (ds:List D) | dic (ah:List (Int×D))
noncomputable def R.mut:R->Bool
 | .val _=>false
 | .own _=>true
 | .bor _=>true
 | .fro _=>false
 | .dic _=>false
noncomputable def R.ptr:R->Bool
 | .val _=>false
 | .own _=>true
 | .bor _=>true
 | .fro _=>false
 | .dic _=>true
abbrev Gm:=List (Option R)
def Mt (K:PySem.W.Frag) (G I H:Hp) (ds:List D) (v:V):Prop:=∃ p xs,v=.ref p/\H p=some (.lst xs)/\I p=none/\G p=none/\IsA K I ds xs
def IsK (K:PySem.W.Frag) (I:Hp) (ah:List (Int×D)) (xs:List (Key×V)):Prop:=xs.map (·.1)=ah.map (λq=>Sum.inl q.1)/\IsA K I (ah.map (·.2)) (xs.map (·.2))
theorem IsK.mono {K:PySem.W.Frag}{I I':Hp}{ah:List (Int×D)}{xs:List (Key×V)} (e:Same I I') (h:IsK K I ah xs):IsK K I' ah xs:=⟨h.1,h.2.mono e⟩
def MtK (K:PySem.W.Frag) (G I H:Hp) (ah:List (Int×D)) (v:V):Prop:=∃ p xs,v=.ref p/\H p=some (.dK xs)/\I p=none/\G p=none/\IsK K I ah xs
def SlotOk (K:PySem.W.Frag) (G I H:Hp):R->V->Prop
 | .val d,v=>Is K I d v
 | .own ds,v=>Mt K G I H ds v
 | .bor ds,v=>Mt K G I H ds v
 | .fro ds,v=>∃ p xs,v=.ref p/\I p=some (.lst xs)/\G p=none/\IsA K I ds xs
 | .dic ah,v=>MtK K G I H ah v
theorem SlotOk.mt {K:PySem.W.Frag}{G I H:Hp}{r:R}{v:V} (h:SlotOk K G I H r v) (m:r.ptr=true):∃ p xs,v=.ref p/\H p=some xs/\I p=none/\G p=none:=by
 cases r with
 | val d=>cases m
 | own ds=>obtain ⟨p,xs,e1,e2,e3,e4,_⟩:=h;exact ⟨p,_,e1,e2,e3,e4⟩
 | bor ds=>obtain ⟨p,xs,e1,e2,e3,e4,_⟩:=h;exact ⟨p,_,e1,e2,e3,e4⟩
 | fro ds=>cases m
 | dic ds=>obtain ⟨p,xs,e1,e2,e3,e4,_⟩:=h;exact ⟨p,_,e1,e2,e3,e4⟩
structure Rep (K:PySem.W.Frag) (B:Nat->Option (Option V)) (G I H:Hp) (U:L2.St) (Z:Gm):Prop where
 iH:Same I H
 gH:Same G H
 len:U.length=Z.length
 slot:∀ (i:Nat) (r:R),Z[i]?=some (some r)->∃ v,U[i]?=some (some v)/\SlotOk K G I H r v
 dist:∀ (i j:Nat) (r r':R) (v:V),Z[i]?=some (some r)->Z[j]?=some (some r')->r.ptr=true->r'.ptr=true->U[i]?=some (some v)->U[j]?=some (some v)->i=j
 bor:∀ (i:Nat) (ds:List D),Z[i]?=some (some (.bor ds))->U[i]?=B i
structure Grow (G I I':Hp):Prop where
 up:Same I I'
 new:∀ b o,I' b=some o->I b=some o\/G b=none
theorem Grow.refl (G I:Hp):Grow G I I:=⟨Same.refl _,λ_ _ h=>.inl h⟩
theorem Grow.trans {G I I1 I2:Hp} (a:Grow G I I1) (b:Grow G I1 I2):Grow G I I2:=⟨a.up.trans b.up,λc o h=>by
 rcases b.new c o h with h1 | h1
 ·exact a.new c o h1
 ·exact .inr h1⟩
section
variable {K:PySem.W.Frag}{B:Nat->Option (Option V)}{G I I' H H':Hp}{U:L2.St}{Z:Gm}
theorem Rep.ext (r:Rep K B G I H U Z) (hI:Same I I') (hH:Same H H') (iH:Same I' H') (new:∀ b o,I' b=some o->I b=some o\/H b=none):Rep K B G I' H' U Z where
 iH:=iH
 gH:=r.gH.trans hH
 len:=r.len
 slot:=λi q e=>by
  obtain ⟨v,e1,e2⟩:=r.slot i q e
  refine ⟨v,e1,?_⟩
  have mt:∀ ds,Mt K G I H ds v->Mt K G I' H' ds v:=λds h=>by
   obtain ⟨p,xs,h1,h2,h3,h4,h5⟩:=h
   refine ⟨p,xs,h1,hH _ _ h2,?_,h4,h5.mono hI⟩
   cases z:I' p with
   | none=>rfl
   | some o =>
    rcases new p o z with z1 | z1
    ·rw [h3] at z1;cases z1
    ·rw [h2] at z1;cases z1
  cases q with
  | val d=>exact Is.mono hI e2
  | dic ds =>
   obtain ⟨p,xs,h1,h2,h3,h4,h5⟩:=e2
   refine ⟨p,xs,h1,hH _ _ h2,?_,h4,h5.mono hI⟩
   cases z:I' p with
   | none=>rfl
   | some o =>
    rcases new p o z with z1 | z1
    ·rw [h3] at z1;cases z1
    ·rw [h2] at z1;cases z1
  | own ds=>exact mt ds e2
  | bor ds=>exact mt ds e2
  | fro ds=>obtain ⟨p,xs,f1,f2,f3,f4⟩:=e2;exact ⟨p,xs,f1,hI _ _ f2,f3,f4.mono hI⟩
 dist:=r.dist
 bor:=r.bor
theorem aA' {H:Hp}{p:Addr} (h:H p=none) (o:HO):Same H (upd H p o):=λb u q=>by rw [ae' (aD' q h)];exact q
theorem gj' {I H:Hp}{p:Addr} (h:Same I H) (o:HO):Same (upd I p o) (upd H p o):=λb u q=>by
 by_cases e:b=p
 ·subst e;rw [ag'] at q ⊢;exact q
 ·rw [ae' e] at q ⊢;exact h b u q
theorem Rep.iFree (r:Rep K B G I H U Z){p:Addr} (h:H p=none):I p=none:=r.iH.free h
theorem Rep.gFree (r:Rep K B G I H U Z){p:Addr} (h:H p=none):G p=none:=r.gH.free h
theorem Rep.alloc (r:Rep K B G I H U Z){p:Addr} (h:H p=none) (o:HO):Rep K B G (upd I p o) (upd H p o) U Z :=
 r.ext (aA' (r.iFree h) o) (aA' h o) (gj' r.iH o) λb u q=>by
  by_cases e:b=p
  ·subst e;exact .inr h
  ·rw [ae' e] at q;exact .inl q
theorem Rep.growAlloc (r:Rep K B G I H U Z){p:Addr} (h:H p=none) (o:HO):Grow G I (upd I p o):=⟨aA' (r.iFree h) o,λb u q=>by
 by_cases e:b=p
 ·subst e;exact .inr (r.gFree h)
 ·rw [ae' e] at q;exact .inl q⟩
theorem Rep.fresh (r:Rep K B G I H U Z){p:Addr} (h:H p=none) (o:HO):Rep K B G I (upd H p o) U Z :=
 r.ext (Same.refl _) (aA' h o) (r.iH.trans (aA' h o)) λb u q=>.inl q
def Apart (U:L2.St) (Z:Gm) (p:Addr):Prop:=∀ (j:Nat) (r:R),Z[j]?=some (some r)->r.ptr=true->U[j]?≠some (some (.ref p))
theorem Rep.apart (r:Rep K B G I H U Z){p:Addr} (h:H p=none):Apart U Z p:=λj q e m z=>by
 obtain ⟨v,e1,e2⟩:=r.slot j q e
 obtain ⟨p',xs,h1,h2,_,_⟩:=e2.mt m
 rw [e1] at z
 subst h1
 cases z
 rw [h] at h2;cases h2
theorem Rep.freeze (r:Rep K B G I H U Z){p:Addr}{xs:List V} (h:H p=some (.lst xs)) (hi:I p=none) (a:Apart U Z p):Rep K B G (upd I p (.lst xs)) H U Z where
 iH:=λb u q=>by
  by_cases e:b=p
  ·subst e;rw [ag'] at q;cases q;exact h
  ·rw [ae' e] at q;exact r.iH b u q
 gH:=r.gH
 len:=r.len
 slot:=λi q e=>by
  obtain ⟨v,e1,e2⟩:=r.slot i q e
  refine ⟨v,e1,?_⟩
  have up:=aA' hi (.lst xs)
  have mt:q.ptr=true->∀ ds,Mt K G I H ds v->Mt K G (upd I p (.lst xs)) H ds v:=λm ds h=>by
   obtain ⟨p',aW,h1,h2,h3,h4,h5⟩:=h
   refine ⟨p',aW,h1,h2,?_,h4,h5.mono up⟩
   have ne:p'≠p:=λz=>a i q e m (by rw [e1,h1,z])
   rw [ae' ne];exact h3
  cases q with
  | val d=>exact Is.mono up e2
  | dic ds =>
   obtain ⟨p',aW,h1,h2,h3,h4,h5⟩:=e2
   refine ⟨p',aW,h1,h2,?_,h4,h5.mono up⟩
   have ne:p'≠p:=λz=>a i _ e rfl (by rw [e1,h1,z])
   rw [ae' ne];exact h3
  | own ds=>exact mt rfl ds e2
  | bor ds=>exact mt rfl ds e2
  | fro ds=>obtain ⟨p,xs,f1,f2,f3,f4⟩:=e2;exact ⟨p,xs,f1,up _ _ f2,f3,f4.mono up⟩
 dist:=r.dist
 bor:=r.bor
theorem growFreeze {G I:Hp}{p:Addr}{xs:List V} (hi:I p=none) (hg:G p=none):Grow G I (upd I p (.lst xs)):=⟨aA' hi _,λb u q=>by
 by_cases e:b=p
 ·subst e;exact .inr hg
 ·rw [ae' e] at q;exact .inl q⟩
theorem ax' {α:Type}{l:List α}{i j:Nat}{a b:α} (h:(l.set i a)[j]?=some b):(j=i/\b=a/\i < l.length)\/(j≠i/\l[j]?=some b):=by
 by_cases e:j=i
 ·subst e
  by_cases hl:j < l.length
  ·rw [List.getElem?_set_self hl] at h;cases h;exact .inl ⟨rfl,rfl,hl⟩
  ·rw [List.getElem?_eq_none (by rw [length_set];omega)] at h;cases h
 ·rw [getElem?_set_ne (Ne.symm e)] at h;exact .inr ⟨e,h⟩
theorem Rep.forget (r:Rep K B G I H U Z) (i:Nat):Rep K B G I H U (Z.set i none) where
 iH:=r.iH
 gH:=r.gH
 len:=by rw [length_set];exact r.len
 slot:=λj q e=>by
  rcases ax' e with ⟨_,z,_⟩ | ⟨_,z⟩
  ·cases z
  ·exact r.slot j q z
 dist:=λj k q q' v e e'=>by
  rcases ax' e with ⟨_,z,_⟩ | ⟨_,z⟩
  ·cases z
  rcases ax' e' with ⟨_,z',_⟩ | ⟨_,z'⟩
  ·cases z'
  exact r.dist j k q q' v z z'
 bor:=λj ds e=>by
  rcases ax' e with ⟨_,z,_⟩ | ⟨_,z⟩
  ·cases z
  ·exact r.bor j ds z
theorem Rep.learn (r:Rep K B G I H U Z){i:Nat}{q:R}{v:V} (hv:U[i]?=some (some v)) (ok:SlotOk K G I H q v) (ha:q.ptr=true->∀ p,v=.ref p->∀ (j:Nat) (r:R),j≠i->Z[j]?=some (some r)->r.ptr=true->U[j]?≠some (some (.ref p)))
  (hb:∀ ds,q=.bor ds->U[i]?=B i):Rep K B G I H U (Z.set i (some q)) where
 iH:=r.iH
 gH:=r.gH
 len:=by rw [length_set];exact r.len
 slot:=λj q' e=>by
  rcases ax' e with ⟨rfl,z,_⟩ | ⟨_,z⟩
  ·cases z;exact ⟨v,hv,ok⟩
  ·exact r.slot j q' z
 dist:=λj k q1 q2 w e e' m1 m2 s1 s2=>by
  rcases ax' e with ⟨rfl,z,_⟩ | ⟨n1,z⟩
  ·cases z
   rcases ax' e' with ⟨rfl,z',_⟩ | ⟨n2,z'⟩
   ·rfl
   ·obtain ⟨p,xs,e1,_⟩:=ok.mt m1
    rw [hv] at s1;cases s1
    exact absurd (e1▸s2) (ha m1 p e1 k q2 n2 z' m2)
  ·rcases ax' e' with ⟨rfl,z',_⟩ | ⟨n2,z'⟩
   ·cases z'
    obtain ⟨p,xs,e1,_⟩:=ok.mt m2
    rw [hv] at s2;cases s2
    exact absurd (e1▸s1) (ha m2 p e1 j q1 n1 z m1)
   ·exact r.dist j k q1 q2 w z z' m1 m2 s1 s2
 bor:=λj ds e=>by
  rcases ax' e with ⟨rfl,z,_⟩ | ⟨_,z⟩
  ·cases z;exact hb ds rfl
  ·exact r.bor j ds z
theorem Rep.store (r:Rep K B G I H U Z){i:Nat}{q:R}{v:V} (hi:i < U.length) (ok:SlotOk K G I H q v) (ha:q.ptr=true->∀ p,v=.ref p->Apart U Z p) (hb:∀ ds,q≠.bor ds):Rep K B G I H (U.set i (some v)) (Z.set i (some q)):=by
 have r1:Rep K B G I H (U.set i (some v)) (Z.set i none):={
  iH:=r.iH,gH:=r.gH,len:=by rw [length_set,length_set];exact r.len
  slot:=λj q' e=>by
   rcases ax' e with ⟨_,z,_⟩ | ⟨n,z⟩
   ·cases z
   ·rw [getElem?_set_ne (Ne.symm n)];exact r.slot j q' z
  dist:=λj k q1 q2 w e e' m1 m2 s1 s2=>by
   rcases ax' e with ⟨_,z,_⟩ | ⟨n1,z⟩
   ·cases z
   rcases ax' e' with ⟨_,z',_⟩ | ⟨n2,z'⟩
   ·cases z'
   rw [getElem?_set_ne (Ne.symm n1)] at s1
   rw [getElem?_set_ne (Ne.symm n2)] at s2
   exact r.dist j k q1 q2 w z z' m1 m2 s1 s2
  bor:=λj ds e=>by
   rcases ax' e with ⟨_,z,_⟩ | ⟨n,z⟩
   ·cases z
   ·rw [getElem?_set_ne (Ne.symm n)];exact r.bor j ds z }
 have r2:=r1.learn (i:=i) (q:=q) (v:=v) (by rw [List.getElem?_set_self hi]) ok (λm p e j q' n z m' s=>by
  rcases ax' z with ⟨_,z',_⟩ | ⟨_,z'⟩
  ·cases z'
  ·rw [getElem?_set_ne (Ne.symm n)] at s
   exact ha m p e j q' z' m' s) (λds e=>absurd e (hb ds))
 rw [set_set] at r2
 exact r2
theorem Rep.write (r:Rep K B G I H U Z){i:Nat}{q q':R}{p:Addr}{xs ys:List V}{ds:List D} (hq:Z[i]?=some (some q)) (hm:q.ptr=true) (hs:U[i]?=some (some (.ref p))) (h:H p=some (.lst xs)) (iu:q'=.own ds\/(q'=.bor ds/\∃ es,q=.bor es)) (hd:IsA K I ds ys) :
  Rep K B G I (upd H p (.lst ys)) U (Z.set i (some q')):=by
 obtain ⟨v,e1,e2⟩:=r.slot i q hq
 obtain ⟨p',aW,h1,h2,h3,h4⟩:=e2.mt hm
 have hp:p'=p:=by rw [hs] at e1;subst h1;cases e1;rfl
 subst hp
 have bO:∀ (j:Nat) (r':R),j≠i->Z[j]?=some (some r')->r'.ptr=true->U[j]?≠some (some (.ref p')):=λj r' n z m s=>n (r.dist j i r' q _ z hq m hm s hs)
 have sI:Same I (upd H p' (.lst ys)):=λb u z=>by
  have ne:b≠p':=λe=>by subst e;rw [h3] at z;cases z
  rw [ae' ne];exact r.iH b u z
 have sG:Same G (upd H p' (.lst ys)):=λb u z=>by
  have ne:b≠p':=λe=>by subst e;rw [h4] at z;cases z
  rw [ae' ne];exact r.gH b u z
 have r1:Rep K B G I (upd H p' (.lst ys)) U (Z.set i none):={
  iH:=sI,gH:=sG,len:=by rw [length_set];exact r.len
  slot:=λj q1 e=>by
   rcases ax' e with ⟨_,z,_⟩ | ⟨n,z⟩
   ·cases z
   obtain ⟨w,e3,e4⟩:=r.slot j q1 z
   refine ⟨w,e3,?_⟩
   have mt:q1.ptr=true->∀ ds,Mt K G I H ds w->Mt K G I (upd H p' (.lst ys)) ds w:=λm ds hh=>by
    obtain ⟨p2,eA,g1,g2,g3,g4,g5⟩:=hh
    refine ⟨p2,eA,g1,?_,g3,g4,g5⟩
    have ne:p2≠p':=λz2=>bO j q1 n z m (by rw [e3,g1,z2])
    rw [ae' ne];exact g2
   cases q1 with
   | val d=>exact e4
   | dic ds =>
    obtain ⟨p2,eA,g1,g2,g3,g4,g5⟩:=e4
    refine ⟨p2,eA,g1,?_,g3,g4,g5⟩
    have ne:p2≠p':=λz2=>bO j _ n z rfl (by rw [e3,g1,z2])
    rw [ae' ne];exact g2
   | own ds=>exact mt rfl ds e4
   | bor ds=>exact mt rfl ds e4
   | fro ds=>exact e4
  dist:=(r.forget i).dist
  bor:=(r.forget i).bor }
 have mS:Mt K G I (upd H p' (.lst ys)) ds (.ref p'):=⟨p',ys,rfl,ag',h3,h4,hd⟩
 have r2:=r1.learn (i:=i) (q:=q') (v:=.ref p') hs (by rcases iu with rfl | ⟨rfl,_⟩<;>exact mS) (λm p2 e j r' n z m' s=>by
  cases e
  rcases ax' z with ⟨_,z',_⟩ | ⟨_,z'⟩
  ·cases z'
  ·exact bO j r' n z' m' s) (λes e=>by
  rcases iu with rfl | ⟨rfl,es',rfl⟩
  ·cases e
  ·exact r.bor i es' hq)
 rw [set_set] at r2
 exact r2
end
end DL
namespace DL
open PySem PySem.Spec PyProof.Rows L2
abbrev M (α:Type):=Gm->Option (α×Gm)
noncomputable def ret {α:Type} (a:α):M α:=λZ=>some (a,Z)
noncomputable def bnd {α β:Type} (m:M α) (f:α->M β):M β:=λZ=>match m Z with
 | some (a,ae)=>f a ae
 | none=>none
noncomputable def lft {α:Type} (o:Option α):M α:=λZ=>match o with
 | some a=>some (a,Z)
 | none=>none
theorem ac' {α β:Type}{m:M α}{f:α->M β}{Z:Gm}{b:β}{aj:Gm} (h:bnd m f Z=some (b,aj)):∃ a ae,m Z=some (a,ae)/\f a ae=some (b,aj):=by
 unfold bnd at h
 cases e:m Z with
 | none=>rw [e] at h;cases h
 | some q=>obtain ⟨a,ae⟩:=q;rw [e] at h;exact ⟨a,ae,rfl,h⟩
theorem am' {α:Type}{o:Option α}{Z aj:Gm}{a:α} (h:lft o Z=some (a,aj)):o=some a/\aj=Z:=by
 unfold lft at h
 cases o with
 | none=>cases h
 | some b=>cases h;exact ⟨rfl,rfl⟩
section
variable (K:PySem.W.Frag) (B:Nat->Option (Option V))
def KD (G I:Hp) (U:L2.St) (aj:Gm) (d:D) (Q:VK):Prop:=∀ v H' I',Rep K B G I' H' U aj->Grow G I I'->Is K I' d v->Q v H'
def KO (G I:Hp) (U:L2.St) (aj:Gm) (ds:List D) (Q:VK):Prop:=∀ p xs H' I',Rep K B G I' H' U aj->Grow G I I'->H' p=some (.lst xs)->I' p=none->G p=none->Apart U aj p->IsA K I' ds xs->Q (.ref p) H'
def KT (G I:Hp) (U:L2.St) (aj:Gm) (b:Bool) (Q:Bool->Hp->Prop):Prop:=∀ H' I',Rep K B G I' H' U aj->Grow G I I'->Q b H'
def KA (G I:Hp) (U:L2.St) (aj:Gm) (ds:List D) (Q:List V->Hp->Prop):Prop:=∀ vs H' I',Rep K B G I' H' U aj->Grow G I I'->IsA K I' ds vs->Q vs H'
noncomputable def tD (g:M D):TE:=λU H Q=>∃ G I Z d aj,Rep K B G I H U Z/\g Z=some (d,aj)/\KD K B G I U aj d Q
noncomputable def tO (g:M (List D)):TE:=λU H Q=>∃ G I Z ds aj,Rep K B G I H U Z/\g Z=some (ds,aj)/\KO K B G I U aj ds Q
noncomputable def tTD (g:M Bool):TT:=λU H Q=>∃ G I Z b aj,Rep K B G I H U Z/\g Z=some (b,aj)/\KT K B G I U aj b Q
noncomputable def tAD (g:M (List D)):TA:=λU H Q=>∃ G I Z ds aj,Rep K B G I H U Z/\g Z=some (ds,aj)/\KA K B G I U aj ds Q
end
abbrev BB:=Nat->Option (Option V)
def ED (X:Cx) (B:BB) (e:Expr) (g:M D):Prop:=PE X e (tD X.K B g)
def EO (X:Cx) (B:BB) (e:Expr) (g:M (List D)):Prop:=PE X e (tO X.K B g)
def TD (X:Cx) (B:BB) (e:Expr) (g:M Bool):Prop:=PT X e (tTD X.K B g)
def TW (X:Cx) (B:BB) (e:Expr) (g:M Bool):Prop:=PW X e (tTD X.K B g)
def AD (X:Cx) (B:BB) (es:List Expr) (g:M (List D)):Prop:=PA X es (tAD X.K B g)
section
variable {X:Cx}{e:Expr}
theorem PE.imp {t t':TE} (h:PE X e t) (f:∀ U H Q,t' U H Q->t U H Q):PE X e t':=λaa s U H Q I q=>h aa s U H Q I (f U H Q q)
theorem PT.imp {t t':TT} (h:PT X e t) (f:∀ U H Q,t' U H Q->t U H Q):PT X e t':=λaa s U H Q I q=>h aa s U H Q I (f U H Q q)
theorem PW.imp {t t':TT} (h:PW X e t) (f:∀ U H Q,t' U H Q->t U H Q):PW X e t':=λwh aa s U H Q I q=>h wh aa s U H Q I (f U H Q q)
theorem PA.imp {es:List Expr}{t t':TA} (h:PA X es t) (f:∀ U H Q,t' U H Q->t U H Q):PA X es t':=λpos aa s U H Q I q=>h pos aa s U H Q I (f U H Q q)
end
section
variable {K:PySem.W.Frag}{B:BB}{G I I1 I2 H H1:Hp}{U:L2.St}{Z ae aj:Gm}{d:D}{ds:List D}{Q:VK}
theorem KD.now (k:KD K B G I U Z d Q) (r:Rep K B G I H U Z){v:V} (h:Is K I d v):Q v H:=k v H I r (Grow.refl _ _) h
theorem KD.after (k:KD K B G I U aj d Q) (g:Grow G I I1):KD K B G I1 U aj d Q:=λv H' I' r g' h=>k v H' I' r (g.trans g') h
theorem KO.after (k:KO K B G I U aj ds Q) (g:Grow G I I1):KO K B G I1 U aj ds Q:=λp xs H' I' r g'=>k p xs H' I' r (g.trans g')
theorem KT.after {b:Bool}{Q:Bool->Hp->Prop} (k:KT K B G I U aj b Q) (g:Grow G I I1):KT K B G I1 U aj b Q:=λH' I' r g'=>k H' I' r (g.trans g')
theorem KD.tup (k:KD K B G I U Z (.tup ds) Q) (r:Rep K B G I H U Z){p:Addr}{xs:List V} (hp:H p=none) (h:IsA K I ds xs):Q (.ref p) (upd H p (.tup xs)) :=
 k _ _ _ (r.alloc hp _) (r.growAlloc hp _) (Is.tup (SqT.of ag') (h.mono (aA' (r.iFree hp) _)))
theorem KO.new (k:KO K B G I U Z ds Q) (r:Rep K B G I H U Z){p:Addr}{xs:List V} (hp:H p=none) (h:IsA K I ds xs):Q (.ref p) (upd H p (.lst xs)) :=
 k p xs _ I (r.fresh hp _) (Grow.refl _ _) ag' (r.iFree hp) (r.gFree hp) (r.apart hp) h
end
section
variable {X:Cx}{B:BB}{a b c e:Expr}{es:List Expr}{pos:Pos}{ga gb gc:M D}
def frz (g:M (List D)):M D:=bnd g λds=>ret (.lst ds)
theorem au' {g:M (List D)} (h:EO X B e g):ED X B e (frz g):=PE.imp h λU H Q q=>by
 obtain ⟨G,I,Z,d,aj,r,e1,k⟩:=q
 obtain ⟨ds,ae,e2,e3⟩:=ac' e1
 cases e3
 refine ⟨G,I,Z,ds,_,r,e2,λp xs H' I' r' g h1 h2 h3 h4 h5=>?_⟩
 exact k _ _ _ (r'.freeze h1 h2 h4) (g.trans (growFreeze h2 h3)) (Is.lst (RdK.of ag') (h5.mono (aA' h2 _)))
noncomputable def nm (i:Nat):M D:=λZ=>match Z[i]? with
 | some (some (.val d))=>some (d,Z)
 | some (some (.own ds))=>some (.lst ds,Z.set i (some (.val (.lst ds))))
 | some (some (.fro ds))=>some (.lst ds,Z)
 | _=>none
theorem nw' {i:Nat}{x:Str} (h:PE X (.Name x pos) (tVar i)):ED X B (.Name x pos) (nm i):=PE.imp h λU H Q q=>by
 obtain ⟨G,I,Z,d,aj,r,e1,k⟩:=q
 unfold nm at e1
 cases e:Z[i]? with
 | none=>rw [e] at e1;cases e1
 | some o =>
  cases o with
  | none=>rw [e] at e1;cases e1
  | some q =>
   obtain ⟨v,h1,h2⟩:=r.slot i q e
   cases q with
   | val d'=>rw [e] at e1;cases e1;exact ⟨v,h1,k.now r h2⟩
   | bor ds=>rw [e] at e1;cases e1
   | dic ds=>rw [e] at e1;cases e1
   | fro ds=>rw [e] at e1;cases e1;obtain ⟨p,xs,rfl,f1,f2,f3⟩:=h2;exact ⟨_,h1,k.now r (Is.lst (RdK.of f1) f3)⟩
   | own ds =>
    rw [e] at e1;cases e1
    obtain ⟨p,xs,rfl,g1,g2,g3,g4⟩:=h2
    refine ⟨_,h1,k _ _ (upd I p (.lst xs)) ?_ (growFreeze g2 g3) (Is.lst (RdK.of ag') (g4.mono (aA' g2 _)))⟩
    have ap:Apart U (Z.set i none) p:=λj q' z m s=>by
     rcases ax' z with ⟨_,z',_⟩ | ⟨n,z'⟩
     ·cases z'
     ·exact n (r.dist j i q' (.own ds) _ z' e m rfl s h1)
    have r1:=(r.forget i).freeze g1 g2 ap
    have r2:=r1.learn (i:=i) (q:=.val (.lst ds)) h1 (Is.lst (RdK.of ag') (g4.mono (aA' g2 _))) (λm=>nomatch m) (λ_ z=>nomatch z)
    rw [set_set] at r2
    exact r2
theorem ed_c {d:D}{v:V} (h:PE X e (tC v)) (hd:∀ I,Is X.K I d v):ED X B e (ret d):=PE.imp h λU H Q q=>by
 obtain ⟨G,I,Z,d',aj,r,e1,k⟩:=q
 cases e1
 exact k.now r (hd I)
theorem aa' {i j}:ED X B (.Constant (.int i) j pos) (ret (.int i)):=ed_c o8' λ_=>Is.int i
theorem bj' {b j}:ED X B (.Constant (.bool b) j pos) (ret (.bl b)):=ed_c qo' λ_=>Is.bl b
theorem pC' {j}:ED X B (.Constant .none j pos) (ret .non):=ed_c o9' λ_=>Is.non
theorem pD' {x j}:ED X B (.Constant (.str x) j pos) (ret (.str x)):=ed_c pa' λ_=>Is.str x
noncomputable def nilA:M (List D):=ret []
def consA (g:M D) (t:M (List D)):M (List D):=bnd g λd=>bnd t λds=>ret (d::ds)
theorem ad':AD X B [] nilA:=PA.imp dM' λU H Q q=>by
 obtain ⟨G,I,Z,d,aj,r,e1,k⟩:=q
 cases e1
 exact k _ _ _ r (Grow.refl _ _) IsA.nil
theorem nW' {g:M D}{t:M (List D)} (ha:ED X B e g) (hr:AD X B es t) (hs:starEach (e::es) X.env=(false,eval e X.env)::starEach es X.env:=by rfl):AD X B (e::es) (consA g t) :=
 PA.imp (bY' ha hr hs) λU H Q q=>by
  obtain ⟨G,I,Z,d,aj,r,e1,k⟩:=q
  obtain ⟨d1,ae,e2,e3⟩:=ac' e1
  obtain ⟨d2,ao,e4,e5⟩:=ac' e3
  cases e5
  exact ⟨G,I,Z,d1,ae,r,e2,λv H1 I1 r1 g1 h1=>⟨G,I1,ae,d2,_,r1,e4,λvs H2 I2 r2 g2 h2=>k _ _ _ r2 (g1.trans g2) (IsA.cons (h1.mono g2.up) h2)⟩⟩
noncomputable def lim:Nat:=1000000
theorem cg' {n:Nat} (h:n<=lim):n<=sizeLine:=le_trans h (by rw [sizeLine_eq];decide)
def tupA (t:M (List D)):M D:=bnd t λds=>lft (if ds.length<=lim then some (.tup ds) else none)
def lstA (t:M (List D)):M (List D):=bnd t λds=>lft (if ds.length<=lim then some ds else none)
theorem aq' {α:Type}{c:Prop} [Decidable c]{a b:α} (h:(if c then some a else none)=some b):c/\b=a:=by
 by_cases hc:c
 ·rw [if_pos hc] at h;exact ⟨hc,(Option.some.inj h).symm⟩
 ·rw [if_neg hc] at h;cases h
theorem bz' {x1}{t:M (List D)} (h:AD X B es t):ED X B (.Tuple es x1 pos) (tupA t):=PE.imp (pt' h) λU H Q q=>by
 obtain ⟨G,I,Z,d,aj,r,e1,k⟩:=q
 obtain ⟨d1,ae,e2,e3⟩:=ac' e1
 obtain ⟨e4,rfl⟩:=am' e3
 obtain ⟨hl,rfl⟩:=aq' e4
 refine ⟨G,I,Z,d1,_,r,e2,λvs H1 I1 r1 g1 h1=>⟨?_,λp hp=>(k.after g1).tup r1 hp h1⟩⟩
 rw [← h1.length];exact cg' hl
theorem aX' {t:M (List D)} (h:AD X B es t):EO X B (.List es pos) (lstA t):=PE.imp (pu' h) λU H Q q=>by
 obtain ⟨G,I,Z,d,aj,r,e1,k⟩:=q
 obtain ⟨d1,ae,e2,e3⟩:=ac' e1
 obtain ⟨e4,rfl⟩:=am' e3
 obtain ⟨hl,rfl⟩:=aq' e4
 refine ⟨G,I,Z,_,_,r,e2,λvs H1 I1 r1 g1 h1=>⟨?_,λp hp=>(k.after g1).new r1 hp h1⟩⟩
 rw [← h1.length];exact cg' hl
def OpD (K:PySem.W.Frag) (r:R2) (F:D->D->Option D):Prop:=∀ a b d,F a b=some d->∀ (B:BB) (G I H:Hp) (U:L2.St) (Z:Gm) (x y:V) (Q:VK),Rep K B G I H U Z->Is K I a x->Is K I b y->KD K B G I U Z d Q->r x y H Q
def OpO (K:PySem.W.Frag) (r:R2) (F:D->D->Option (List D)):Prop:=∀ a b d,F a b=some d->∀ (B:BB) (G I H:Hp) (U:L2.St) (Z:Gm) (x y:V) (Q:VK),Rep K B G I H U Z->Is K I a x->Is K I b y->KO K B G I U Z d Q->r x y H Q
def CallD (K:PySem.W.Frag) (r:List V->Hp->VK->Prop) (F:List D->Option D):Prop:=∀ ds d,F ds=some d->∀ (B:BB) (G I H:Hp) (U:L2.St) (Z:Gm) (xs:List V) (Q:VK),Rep K B G I H U Z->IsA K I ds xs->KD K B G I U Z d Q->r xs H Q
def CallO (K:PySem.W.Frag) (r:List V->Hp->VK->Prop) (F:List D->Option (List D)):Prop:=∀ ds d,F ds=some d->∀ (B:BB) (G I H:Hp) (U:L2.St) (Z:Gm) (xs:List V) (Q:VK),Rep K B G I H U Z->IsA K I ds xs->KO K B G I U Z d Q->r xs H Q
def op2 {α:Type} (F:D->D->Option α) (ga gb:M D):M α:=bnd ga λx=>bnd gb λy=>lft (F x y)
def fn1 {α:Type} (F:List D->Option α) (t:M (List D)):M α:=bnd t λds=>lft (F ds)
theorem t_op {r:R2}{F:D->D->Option D}{K:PySem.W.Frag} (h:OpD K r F):∀ U H Q,tD K B (op2 F ga gb) U H Q->tOp r (tD K B ga) (tD K B gb) U H Q:=λU H Q q=>by
 obtain ⟨G,I,Z,d,aj,r,e1,k⟩:=q
 obtain ⟨d1,ae,e2,e3⟩:=ac' e1
 obtain ⟨d2,ao,e4,e5⟩:=ac' e3
 obtain ⟨e6,rfl⟩:=am' e5
 exact ⟨G,I,Z,d1,ae,r,e2,λv H1 I1 r1 g1 h1=>⟨G,I1,ae,d2,_,r1,e4,λw H2 I2 r2 g2 h2=>h _ _ _ e6 B G I2 H2 U _ v w Q r2 (h1.mono g2.up) h2 (k.after (g1.trans g2))⟩⟩
theorem nx' {r:R2}{F:D->D->Option (List D)}{K:PySem.W.Frag} (h:OpO K r F):∀ U H Q,tO K B (op2 F ga gb) U H Q->tOp r (tD K B ga) (tD K B gb) U H Q:=λU H Q q=>by
 obtain ⟨G,I,Z,d,aj,r,e1,k⟩:=q
 obtain ⟨d1,ae,e2,e3⟩:=ac' e1
 obtain ⟨d2,ao,e4,e5⟩:=ac' e3
 obtain ⟨e6,rfl⟩:=am' e5
 exact ⟨G,I,Z,d1,ae,r,e2,λv H1 I1 r1 g1 h1=>⟨G,I1,ae,d2,_,r1,e4,λw H2 I2 r2 g2 h2=>h _ _ _ e6 B G I2 H2 U _ v w Q r2 (h1.mono g2.up) h2 (k.after (g1.trans g2))⟩⟩
theorem ec' {op:Operator}{r:R2}{F:D->D->Option D} (ho:OpR X (binaryOp op) r) (h:OpD X.K r F) (ha:ED X B a ga) (hb:ED X B b gb):ED X B (.BinOp a op b pos) (op2 F ga gb):=PE.imp (nl' ho ha hb) (t_op h)
theorem qw' {op:Operator}{r:R2}{F:D->D->Option (List D)} (ho:OpR X (binaryOp op) r) (h:OpO X.K r F) (ha:ED X B a ga) (hb:ED X B b gb):EO X B (.BinOp a op b pos) (op2 F ga gb):=PE.imp (nl' ho ha hb) (nx' h)
theorem ha' {op:CmpOp}{r:R2}{F:D->D->Option D} (ho:OpR X (compareOp op) r) (h:OpD X.K r F) (ha:ED X B a ga) (hb:ED X B b gb) (hm:behindInMarks op b=false:=by first | exact nomark _ | rfl):ED X B (.Compare a [op] [b] pos) (op2 F ga gb):=PE.imp (nP' ho ha hb hm) (t_op h)
theorem qx' {r:R2}{F:D->D->Option D} (ho:IxR X r) (h:OpD X.K r F) (ha:ED X B a ga) (hb:ED X B b gb) (hs:PlainIx b:=by exact λ_ _=>rfl):ED X B (.Subscript a b pos) (op2 F ga gb):=PE.imp (nq' ho ha hb hs) (t_op h)
noncomputable def asB (d:D):Option Bool:=match d with
 | .bl b=>some b
 | _=>none
theorem ed' {d:D}{b:Bool} (h:asB d=some b):d=.bl b:=by
 cases d<;>simp [asB] at h
 rw [h]
def tst (g:M D):M Bool:=bnd g λd=>lft (asB d)
theorem gY' {K:PySem.W.Frag}{g:M D}{t:TE} (ht:∀ U H Q,tD K B g U H Q->t U H Q):∀ U H Q,tTD K B (tst g) U H Q->tTest t U H Q:=λU H Q q=>by
 obtain ⟨G,I,Z,d,aj,r,e1,k⟩:=q
 obtain ⟨d1,ae,e2,e3⟩:=ac' e1
 obtain ⟨e4,rfl⟩:=am' e3
 have:=ed' e4
 subst this
 exact ht _ _ _ ⟨G,I,Z,_,_,r,e2,λv H1 I1 r1 g1 h1=>⟨d,a3' h1,k _ _ r1 g1⟩⟩
theorem cC' {op:CmpOp}{r:R2}{F:D->D->Option D} (ho:OpR X (compareOp op) r) (h:OpD X.K r F) (ha:ED X B a ga) (hb:ED X B b gb) (hm:behindInMarks op b=false:=by first | exact nomark _ | rfl):TD X B (.Compare a [op] [b] pos) (tst (op2 F ga gb)):=PT.imp (iJ' ho ha hb hm) (gY' (t_op h))
theorem kv' (ha:ED X B a ga) (he:∀ bg,isTrue a X.env bg=(do let v ← bg;standAt a.pos;holding [v] (truthy v)):=by intro _;rfl):TD X B a (tst ga):=PT.imp (pc' ha he) (gY' λ_ _ _ z=>z)
def andT (a b:M Bool):M Bool:=bnd a λk=>if k then b else ret false
def orT (a b:M Bool):M Bool:=bnd a λk=>if k then ret true else b
def notT (a:M Bool):M Bool:=bnd a λk=>ret (!k)
def andV (a b:M D):M D:=bnd a λd=>bnd (lft (asB d)) λk=>if k then b else ret (.bl false)
variable {ta tb:M Bool}{aB:List Expr}
theorem ee' (ha:TD X B a ta):TW X B (.BoolOp .And [a] pos) ta:=nK' ha
theorem kw' (ha:TD X B a ta):TW X B (.BoolOp .Or [a] pos) ta:=pd' ha
theorem fi' (ha:TD X B a ta) (hb:TW X B (.BoolOp .And (b::aB) pos) tb):TW X B (.BoolOp .And (a::b::aB) pos) (andT ta tb):=PW.imp (pe' ha hb) λU H Q q=>by
 obtain ⟨G,I,Z,d,aj,r,e1,k⟩:=q
 obtain ⟨d1,ae,e2,e3⟩:=ac' e1
 refine ⟨G,I,Z,d1,ae,r,e2,λH1 I1 r1 g1=>?_⟩
 cases d1 with
 | true=>exact iteT ⟨G,I1,ae,d,aj,r1,e3,k.after g1⟩
 | false=>cases e3;exact iteF (k _ _ r1 g1)
theorem ny' (ha:TD X B a ta) (hb:TW X B (.BoolOp .Or (b::aB) pos) tb):TW X B (.BoolOp .Or (a::b::aB) pos) (orT ta tb):=PW.imp (qp' ha hb) λU H Q q=>by
 obtain ⟨G,I,Z,d,aj,r,e1,k⟩:=q
 obtain ⟨d1,ae,e2,e3⟩:=ac' e1
 refine ⟨G,I,Z,d1,ae,r,e2,λH1 I1 r1 g1=>?_⟩
 cases d1 with
 | false=>exact iteF ⟨G,I1,ae,d,aj,r1,e3,k.after g1⟩
 | true=>cases e3;exact iteT (k _ _ r1 g1)
theorem TW.td (h:TW X B e ta):TD X B e ta:=h _
theorem kx' (ha:TD X B a ta):TD X B (.UnaryOp .Not a pos) (notT ta):=PT.imp (pf' ha) λU H Q q=>by
 obtain ⟨G,I,Z,d,aj,r,e1,k⟩:=q
 obtain ⟨d1,ae,e2,e3⟩:=ac' e1
 cases e3
 exact ⟨G,I,Z,d1,_,r,e2,λH1 I1 r1 g1=>k _ _ r1 g1⟩
theorem ky' {op} (h:ED X B a ga):ED X B (.BoolOp op [a] pos) ga:=pg' h
theorem kz' (ha:ED X B a ga) (hb:ED X B (.BoolOp .And (b::aB) pos) gb):ED X B (.BoolOp .And (a::b::aB) pos) (andV ga gb):=PE.imp (ph' ha hb) λU H Q q=>by
 obtain ⟨G,I,Z,d,aj,r,e1,k⟩:=q
 obtain ⟨d1,ae,e2,e3⟩:=ac' e1
 obtain ⟨k1,ao,e4,e5⟩:=ac' e3
 obtain ⟨e6,rfl⟩:=am' e4
 have:=ed' e6
 subst this
 refine ⟨G,I,Z,_,_,r,e2,λv H1 I1 r1 g1 h1=>⟨k1,a3' h1,?_⟩⟩
 cases k1 with
 | true=>exact iteT ⟨G,I1,_,d,aj,r1,e5,k.after g1⟩
 | false=>cases e5;exact iteF (k _ _ _ r1 g1 (Is.bl false))
variable {x:Str}{p:Pos}{id T:String}{r:List V->Hp->VK->Prop}{t:M (List D)}
theorem t_fn {F:List D->Option D}{K:PySem.W.Frag} (h:CallD K r F):∀ U H Q,tD K B (fn1 F t) U H Q->tCB r (tAD K B t) U H Q:=λU H Q q=>by
 obtain ⟨G,I,Z,d,aj,r,e1,k⟩:=q
 obtain ⟨d1,ae,e2,e3⟩:=ac' e1
 obtain ⟨e4,rfl⟩:=am' e3
 exact ⟨G,I,Z,d1,_,r,e2,λvs H1 I1 r1 g1 h1=>h _ _ e4 B G I1 H1 U _ vs Q r1 h1 (k.after g1)⟩
theorem jz' {F:List D->Option (List D)}{K:PySem.W.Frag} (h:CallO K r F):∀ U H Q,tO K B (fn1 F t) U H Q->tCB r (tAD K B t) U H Q:=λU H Q q=>by
 obtain ⟨G,I,Z,d,aj,r,e1,k⟩:=q
 obtain ⟨d1,ae,e2,e3⟩:=ac' e1
 obtain ⟨e4,rfl⟩:=am' e3
 exact ⟨G,I,Z,d1,_,r,e2,λvs H1 I1 r1 g1 h1=>h _ _ e4 B G I1 H1 U _ vs Q r1 h1 (k.after g1)⟩
theorem fj' {F:List D->Option D} (hc:CallR X (.builtin id) r) (h:CallD X.K r F) (hg:Gl X x) (hm:X.mg x=none) (hv:bootBuiltins x=some (.builtin id)) (ha:AD X B (e::es) t) (hn:x ≠ "__name__":=by decide) (aS:(x == ("__debug__":Str))=false:=by decide)
  (he:starEach (e::es) X.env=(false,eval e X.env)::starEach es X.env:=by rfl) (aA:(backTo pos (starEach es X.env)).any (·.1)=false:=by rfl):ED X B (.Call (.Name x p) (e::es) [] pos) (fn1 F t):=PE.imp (dm' hc hg hm hv ha hn aS he aA) (t_fn h)
theorem pE' {F:List D->Option (List D)} (hc:CallR X (.builtin id) r) (h:CallO X.K r F) (hg:Gl X x) (hm:X.mg x=none) (hv:bootBuiltins x=some (.builtin id)) (ha:AD X B (e::es) t) (hn:x ≠ "__name__":=by decide) (aS:(x == ("__debug__":Str))=false:=by decide)
  (he:starEach (e::es) X.env=(false,eval e X.env)::starEach es X.env:=by rfl) (aA:(backTo pos (starEach es X.env)).any (·.1)=false:=by rfl):EO X B (.Call (.Name x p) (e::es) [] pos) (fn1 F t):=PE.imp (dm' hc hg hm hv ha hn aS he aA) (jz' h)
theorem pF' {F:List D->Option (List D)} (hc:CallR X (.type T) r) (h:CallO X.K r F) (hg:Gl X x) (hm:X.mg x=none) (hv:bootBuiltins x=some (.type T)) (ha:AD X B (e::es) t) (hn:x ≠ "__name__":=by decide) (aS:(x == ("__debug__":Str))=false:=by decide)
  (he:starEach (e::es) X.env=(false,eval e X.env)::starEach es X.env:=by rfl) (aA:(backTo pos (starEach es X.env)).any (·.1)=false:=by rfl):EO X B (.Call (.Name x p) (e::es) [] pos) (fn1 F t):=PE.imp (kq' hc hg hm hv ha hn aS he aA) (jz' h)
end
inductive Fl where
 | nx | rt (r:R) | bk | ct
def ResOk (K:PySem.W.Frag) (G I H:Hp) (U:L2.St) (Z:Gm):R->V->Prop
 | .val d,v=>Is K I d v
 | .own ds,v=>∃ p xs,v=.ref p/\H p=some (.lst xs)/\I p=none/\G p=none/\Apart U Z p/\IsA K I ds xs
 | .bor _,_=>False
 | .fro ds,v=>∃ p xs,v=.ref p/\I p=some (.lst xs)/\G p=none/\IsA K I ds xs
 | .dic ah,v=>∃ p xs,v=.ref p/\H p=some (.dK xs)/\I p=none/\G p=none/\Apart U Z p/\IsK K I ah xs
def EndAt (K:PySem.W.Frag) (G I H:Hp) (U:L2.St) (Z:Gm) (E:Ends):Fl->Prop
 | .nx=>E.nx U H
 | .bk=>E.bk U H
 | .ct=>E.ct U H
 | .rt r=>∀ v,ResOk K G I H U Z r v->E.rt v H
section
variable (K:PySem.W.Frag) (B:BB)
def KS (G I:Hp) (aj:Gm) (f:Fl) (E:Ends):Prop:=∀ aq H' I',Rep K B G I' H' aq aj->Grow G I I'->EndAt K G I' H' aq aj E f
noncomputable def tS (g:M Fl):TS:=λE U H=>∃ G I Z f aj,Rep K B G I H U Z/\g Z=some (f,aj)/\KS K B G I aj f E
def KG (m:Nat) (U:L2.St) (G I:Hp) (aj:Gm) (Q:L2.St->Hp->Prop):Prop:=∀ aq H' I',Rep K B G I' H' aq aj->Grow G I I'->aq.drop m=U.drop m->Q aq H'
noncomputable def tGD (m:Nat) (f:D->M Unit):TG:=λv U H Q=>∃ G I Z d aj,Rep K B G I H U Z/\Is K I d v/\f d Z=some ((),aj)/\KG K B m U G I aj Q
noncomputable def tGs (m:Nat) (f:List D->M Unit):TGs:=λvs U H Q=>∃ G I Z ds aj,Rep K B G I H U Z/\IsA K I ds vs/\f ds Z=some ((),aj)/\KG K B m U G I aj Q
end
def SD (X:Cx) (B:BB) (st:Stmt) (g:M Fl):Prop:=PS X st (tS X.K B g)
def SDs (X:Cx) (B:BB) (st:List Stmt) (g:M Fl):Prop:=PSs X st (tS X.K B g)
def GD (X:Cx) (B:BB) (m:Nat) (tg:Expr) (f:D->M Unit):Prop:=PG X tg (tGD X.K B m f)
def GDs (X:Cx) (B:BB) (m:Nat) (iw:List Expr) (f:List D->M Unit):Prop:=PGs X iw (tGs X.K B m f)
section
variable {X:Cx}
theorem PS.imp {st:Stmt}{t t':TS} (h:PS X st t) (f:∀ E U H,t' E U H->t E U H):PS X st t':=λaa s U H E I q=>h aa s U H E I (f E U H q)
theorem PSs.imp {st:List Stmt}{t t':TS} (h:PSs X st t) (f:∀ E U H,t' E U H->t E U H):PSs X st t':=λaa s U H E I q=>h aa s U H E I (f E U H q)
theorem PG.imp {tg:Expr}{t t':TG} (h:PG X tg t) (f:∀ v U H Q,t' v U H Q->t v U H Q):PG X tg t':=λaa s U H v u Q I r q=>h aa s U H v u Q I r (f v U H Q q)
theorem PGs.imp {iw:List Expr}{t t':TGs} (h:PGs X iw t) (f:∀ v U H Q,t' v U H Q->t v U H Q):PGs X iw t':=λaa s U H v u Q I r q=>h aa s U H v u Q I r (f v U H Q q)
theorem PI.imp {tg iter:Expr}{t t':TI} (h:PI X tg iter t) (f:∀ U H Q,t' U H Q->t U H Q):PI X tg iter t':=λaa s U H R I q=>h aa s U H R I (f U H R q)
end
section
variable {K:PySem.W.Frag}{B:BB}{G I I1 H:Hp}{Z aj:Gm}{f:Fl}{E:Ends}
theorem KS.after (k:KS K B G I aj f E) (g:Grow G I I1):KS K B G I1 aj f E:=λaq H' I' r g'=>k aq H' I' r (g.trans g')
theorem KG.after {m:Nat}{U dH:L2.St}{Q:L2.St->Hp->Prop} (k:KG K B m U G I aj Q) (g:Grow G I I1) (hs:dH.drop m=U.drop m):KG K B m dH G I1 aj Q:=λaq H' I' r g' z=>k aq H' I' r (g.trans g') (z.trans hs)
end
section
variable {X:Cx}{B:BB}{a b c e:Expr}{es:List Expr}{pos:Pos}{ga gb gc:M D}{st:Stmt}{aB:List Stmt}{g h:M Fl}
noncomputable def seqS (g h:M Fl):M Fl:=bnd g λf=>match f with
 | .nx=>h
 | .rt r=>ret (.rt r)
 | .bk=>ret .bk
 | .ct=>ret .ct
theorem nX':SDs X B [] (ret .nx):=PSs.imp nL' λE U H q=>by
 obtain ⟨G,I,Z,f,aj,r,e1,k⟩:=q
 cases e1
 exact k U H I r (Grow.refl _ _)
theorem nY' (h:SD X B st g):SDs X B [st] g:=nM' h
theorem mc' (h1:SD X B st g) (h2:SDs X B aB h):SDs X B (st::aB) (seqS g h):=PSs.imp (l4' h1 h2) λE U H q=>by
 obtain ⟨G,I,Z,f,aj,r,e1,k⟩:=q
 obtain ⟨f1,ae,e2,e3⟩:=ac' e1
 refine ⟨G,I,Z,f1,ae,r,e2,λdH H1 I1 r1 g1=>?_⟩
 cases f1 with
 | nx=>exact ⟨G,I1,ae,f,aj,r1,e3,k.after g1⟩
 | bk=>cases e3;exact k dH H1 I1 r1 g1
 | ct=>cases e3;exact k dH H1 I1 r1 g1
 | rt v=>cases e3;exact k dH H1 I1 r1 g1
def retS (g:M D):M Fl:=bnd g λd=>ret (.rt (.val d))
theorem aF' (he:ED X B e ga):SD X B (.Return (some e) pos) (retS ga):=PS.imp (g3' he) λE U H q=>by
 obtain ⟨G,I,Z,f,aj,r,e1,k⟩:=q
 obtain ⟨d1,ae,e2,e3⟩:=ac' e1
 cases e3
 exact ⟨G,I,Z,d1,_,r,e2,λv H1 I1 r1 g1 h1=>k U H1 I1 r1 g1 v h1⟩
def retO (g:M (List D)):M Fl:=bnd g λd=>ret (.rt (.own d))
theorem ef' {g:M (List D)} (he:EO X B e g):SD X B (.Return (some e) pos) (retO g):=PS.imp (g3' he) λE U H q=>by
 obtain ⟨G,I,Z,f,aj,r,e1,k⟩:=q
 obtain ⟨d1,ae,e2,e3⟩:=ac' e1
 cases e3
 exact ⟨G,I,Z,d1,_,r,e2,λp xs H1 I1 r1 g1 h1 h2 h3 h4 h5=>k U H1 I1 r1 g1 _ ⟨p,xs,rfl,h1,h2,h3,h4,h5⟩⟩
def ifS (c:M Bool) (a b:M Fl):M Fl:=bnd c λk=>if k then a else b
theorem qy' {tc:M Bool}{sa sb:List Stmt} (hc:TD X B c tc) (ha:SDs X B sa g) (hb:SDs X B sb h):SD X B (.If c sa sb pos) (ifS tc g h):=PS.imp (qq' hc ha hb) λE U H q=>by
 obtain ⟨G,I,Z,f,aj,r,e1,k⟩:=q
 obtain ⟨d1,ae,e2,e3⟩:=ac' e1
 refine ⟨G,I,Z,d1,ae,r,e2,λH1 I1 r1 g1=>?_⟩
 cases d1 with
 | true=>exact iteT ⟨G,I1,ae,f,aj,r1,e3,k.after g1⟩
 | false=>exact iteF ⟨G,I1,ae,f,aj,r1,e3,k.after g1⟩
noncomputable def putS (i:Nat) (q:R):M Unit:=λZ=>if i < Z.length then some ((),Z.set i (some q)) else none
noncomputable def tgN (i:Nat) (d:D):M Unit:=putS i (.val d)
theorem cD' {i:Nat}{q:R}{Z aj:Gm}{u:Unit} (h:putS i q Z=some (u,aj)):i < Z.length/\aj=Z.set i (some q):=by
 unfold putS at h
 obtain ⟨h1,h2⟩:=aq' h
 cases h2
 exact ⟨h1,rfl⟩
theorem hb' {α:Type}:∀ {l:List α}{i m:Nat}{a:α},i < m->(l.set i a).drop m=l.drop m
 | [],_,_,_,_=>rfl
 | _::_,0,m+1,_,_=>rfl
 | _::r,i+1,m+1,a,h=>by
  rw [List.set_cons_succ,drop_succ_cons,drop_succ_cons]
  exact hb' (Nat.lt_of_succ_lt_succ h)
theorem gd_n {i m:Nat}{x:Str} (hN:X.N.Nodup) (hi:X.N[i]?=some x:=by rfl) (hx:locB X.env.scope x=true:=by rfl) (hf:fnB X x=true:=by rfl) (qB:i < m:=by decide):GD X B m (.Name x pos) (tgN i) :=
 PG.imp (nN' hN hi (locI hx) (fnI hf)) λv U H Q q=>by
  obtain ⟨G,I,Z,d,aj,r,hd,e1,k⟩:=q
  obtain ⟨hl,rfl⟩:=cD' e1
  exact k _ _ I (r.store (by rw [r.len];exact hl) hd (λm=>nomatch m) (λ_ z=>nomatch z)) (Grow.refl _ _) (hb' qB)
noncomputable def tgNil (ds:List D):M Unit:=match ds with
 | []=>ret ()
 | _=>λ_=>none
noncomputable def tgCons (f:D->M Unit) (t:List D->M Unit) (ds:List D):M Unit:=match ds with
 | d::r=>bnd (f d) λ_=>t r
 | []=>λ_=>none
theorem fO' {m:Nat}:GDs X B m [] tgNil:=PGs.imp nO' λv U H Q q=>by
 obtain ⟨G,I,Z,ds,aj,r,hd,e1,k⟩:=q
 cases ds with
 | nil=>cases e1;exact ⟨hd.nil_inv,k _ _ I r (Grow.refl _ _) rfl⟩
 | cons d t=>cases e1
theorem bZ' {m:Nat}{f:D->M Unit}{t:List D->M Unit} (h1:GD X B m e f) (h2:GDs X B m es t) (hs:(assignEach (e::es) X.env).map (·.2)=assign e X.env::(assignEach es X.env).map (·.2):=by rfl):GDs X B m (e::es) (tgCons f t):=PGs.imp (l5' h1 h2 hs) λv U H Q q=>by
 obtain ⟨G,I,Z,ds,aj,r,hd,e1,k⟩:=q
 cases ds with
 | nil=>cases e1
 | cons d t =>
  obtain ⟨x,xs,rfl,h1,h2⟩:=hd.cons_inv
  obtain ⟨u,ae,e2,e3⟩:=ac' e1
  exact ⟨x,xs,rfl,G,I,Z,d,ae,r,h1,e2,λdH H1 I1 r1 g1 z=>⟨G,I1,ae,t,aj,r1,h2.mono g1.up,e3,k.after g1 z⟩⟩
noncomputable def tgTup (n:Nat) (t:List D->M Unit) (d:D):M Unit:=match d with
 | .tup ds=>if ds.length=n then t ds else λ_=>none
 | _=>λ_=>none
theorem hf' {k m:Nat}{t:List D->M Unit}{n:Nat} (hc:X.calm=true) (h:GDs X B m es t) (hn:(assignEach es X.env).length=n:=by rfl) (jK:(assignEach es X.env).findIdx? (·.1)=none:=by rfl):GD X B m (.Tuple es k pos) (tgTup n t) :=
 PG.imp (pi' hc h hn jK) λv U H Q q=>by
  obtain ⟨G,I,Z,d,aj,r,hd,e1,k⟩:=q
  cases d with
  | tup ds =>
   obtain ⟨a,xs,rfl,h1,h2⟩:=av' hd
   unfold tgTup at e1
   by_cases hl:ds.length=n
   ·simp only [hl,if_true] at e1
    exact ⟨a,xs,rfl,Same.sqT r.iH h1,by rw [← h2.length];exact hl,G,I,Z,ds,aj,r,h2,e1,k⟩
   ·simp only [hl,if_false] at e1;cases e1
  | _=>cases e1
def setV (i:Nat) (g:M D):M Fl:=bnd g λd=>bnd (putS i (.val d)) λ_=>ret .nx
def setO (i:Nat) (g:M (List D)):M Fl:=bnd g λd=>bnd (putS i (.own d)) λ_=>ret .nx
theorem pG' {K:PySem.W.Frag}{i:Nat}:∀ E U H,tS K B (setV i ga) E U H->tAsg (tD K B ga) (gName i) E U H:=λE U H q=>by
 obtain ⟨G,I,Z,f,aj,r,e1,k⟩:=q
 obtain ⟨d1,ae,e2,e3⟩:=ac' e1
 obtain ⟨d2,ao,e4,e5⟩:=ac' e3
 cases e5
 obtain ⟨hl,rfl⟩:=cD' e4
 exact ⟨G,I,Z,d1,ae,r,e2,λv H1 I1 r1 g1 h1=>k _ H1 I1 (r1.store (by rw [r1.len];exact hl) h1 (λm=>nomatch m) (λ_ z=>nomatch z)) g1⟩
theorem pH' {K:PySem.W.Frag}{i:Nat}{g:M (List D)}:∀ E U H,tS K B (setO i g) E U H->tAsg (tO K B g) (gName i) E U H:=λE U H q=>by
 obtain ⟨G,I,Z,f,aj,r,e1,k⟩:=q
 obtain ⟨d1,ae,e2,e3⟩:=ac' e1
 obtain ⟨d2,ao,e4,e5⟩:=ac' e3
 cases e5
 obtain ⟨hl,rfl⟩:=cD' e4
 exact ⟨G,I,Z,d1,ae,r,e2,λp xs H1 I1 r1 g1 h1 h2 h3 h4 h5=>k _ H1 I1 (r1.store (by rw [r1.len];exact hl) ⟨p,xs,rfl,h1,h2,h3,h5⟩ (λ_ p' z=>by cases z;exact h4) (λ_ z=>nomatch z)) g1⟩
theorem pI' {i:Nat}{x:Str}{az:Pos} (hN:X.N.Nodup) (he:ED X B e ga) (hi:X.N[i]?=some x:=by rfl) (hx:locB X.env.scope x=true:=by rfl) (hs:swapsWith e (some (.Name x az)) pos.line X.env=pure false:=by rfl)
  (hf:fnB X x=true:=by rfl):SD X B (.Assign [.Name x az] e pos) (setV i ga):=PS.imp (g4' hN hi (locI hx) he hs (fnI hf)) pG'
theorem cv' {i:Nat}{x:Str}{az:Pos}{g:M (List D)} (hN:X.N.Nodup) (he:EO X B e g) (hi:X.N[i]?=some x:=by rfl) (hx:locB X.env.scope x=true:=by rfl) (hs:swapsWith e (some (.Name x az)) pos.line X.env=pure false:=by rfl)
  (hf:fnB X x=true:=by rfl):SD X B (.Assign [.Name x az] e pos) (setO i g):=PS.imp (g4' hN hi (locI hx) he hs (fnI hf)) pH'
def isMut (Z:Gm) (i:Nat):Bool:=match Z[i]? with
 | some (some r)=>r.mut
 | _=>false
noncomputable def wr (i:Nat) (F:List D->Option (List D)):M Unit:=λZ=>match Z[i]? with
 | some (some (.own ds))=>match F ds with
  | some es=>some ((),Z.set i (some (.own es)))
  | none=>none
 | some (some (.bor ds))=>match F ds with
  | some es=>some ((),Z.set i (some (.bor es)))
  | none=>none
 | _=>none
theorem bl' {K:PySem.W.Frag}{G I H:Hp}{U:L2.St}{Z:Gm}{i:Nat} (h:isMut Z i=true) (r:Rep K B G I H U Z):∃ p xs,U[i]?=some (some (.ref p))/\H p=some (.lst xs):=by
 unfold isMut at h
 cases e:Z[i]? with
 | none=>rw [e] at h;cases h
 | some o =>
  cases o with
  | none=>rw [e] at h;cases h
  | some q =>
   rw [e] at h
   obtain ⟨v,h1,h2⟩:=r.slot i q e
   cases q with
   | val d=>cases h
   | fro d=>cases h
   | dic d=>cases h
   | own d=>obtain ⟨p,xs,rfl,h3,_⟩:=h2;exact ⟨p,xs,h1,h3⟩
   | bor d=>obtain ⟨p,xs,rfl,h3,_⟩:=h2;exact ⟨p,xs,h1,h3⟩
theorem hh' {K:PySem.W.Frag}{G I H:Hp}{U:L2.St}{Z aj:Gm}{i:Nat}{F:List D->Option (List D)}{u:Unit} (h:wr i F Z=some (u,aj)) (r:Rep K B G I H U Z) :
  ∃ p xs ds es,U[i]?=some (some (.ref p))/\H p=some (.lst xs)/\IsA K I ds xs/\F ds=some es/\∀ ys,IsA K I es ys->Rep K B G I (upd H p (.lst ys)) U aj:=by
 unfold wr at h
 cases e:Z[i]? with
 | none=>rw [e] at h;cases h
 | some o =>
  cases o with
  | none=>rw [e] at h;cases h
  | some q =>
   obtain ⟨v,h1,h2⟩:=r.slot i q e
   cases q with
   | val d=>rw [e] at h;cases h
   | fro d=>rw [e] at h;cases h
   | dic d=>rw [e] at h;cases h
   | own ds =>
    rw [e] at h
    obtain ⟨p,xs,rfl,g1,g2,g3,g4⟩:=h2
    cases hf:F ds with
    | none=>simp only [hf] at h;cases h
    | some es =>
     simp only [hf] at h;cases h
     exact ⟨p,xs,ds,es,h1,g1,g4,hf,λys hy=>r.write e rfl h1 g1 (.inl rfl) hy⟩
   | bor ds =>
    rw [e] at h
    obtain ⟨p,xs,rfl,g1,g2,g3,g4⟩:=h2
    cases hf:F ds with
    | none=>simp only [hf] at h;cases h
    | some es =>
     simp only [hf] at h;cases h
     exact ⟨p,xs,ds,es,h1,g1,g4,hf,λys hy=>r.write e rfl h1 g1 (.inr ⟨rfl,ds,rfl⟩) hy⟩
def mutS {α:Type} (i:Nat) (m:M α):M α:=λZ=>if isMut Z i then m Z else none
theorem b1' {α:Type}{i:Nat}{m:M α}{Z:Gm}{r:α×Gm} (h:mutS i m Z=some r):isMut Z i=true/\m Z=some r:=by
 unfold mutS at h
 by_cases hc:isMut Z i=true
 ·rw [if_pos hc] at h;exact ⟨hc,h⟩
 ·rw [if_neg hc] at h;cases h
noncomputable def appF (d:D) (ds:List D):Option (List D):=if ds.length < lim then some (ds++[d]) else none
noncomputable def extF (d:D) (ds:List D):Option (List D):=match d with
 | .lst es=>if ds.length+es.length<=lim then some (ds++es) else none
 | _=>none
def appS (i:Nat) (g:M D):M Fl:=mutS i (bnd g λd=>bnd (wr i (appF d)) λ_=>ret .nx)
def extS (i:Nat) (g:M D):M Fl:=mutS i (bnd g λd=>bnd (wr i (extF d)) λ_=>ret .nx)
theorem fP' {aa:List (Addr×Obj)}{U:L2.St}{H:Hp}{s:Shared}{l:Addr}{xs:List V} (I:Inv X aa U H s) (hH:RdK X.K H l xs):xs.length<=sizeLine/\∃ (af:List Value) (n:Nat),Vals xs af/\xs.length=af.length/\s.heap.get? l=some { cls:=.type "list", data:=.seq af.toArray n }:=by
 rcases hH with hH | ⟨af,n,h1,h2,h3⟩
 ·obtain ⟨z,af,n,r,e⟩:=hH.ok I.hok
  exact ⟨z,af,n,r,r.length,e⟩
 ·exact ⟨by rw [h2.length];exact h3,af,n,h2,h2.length,I.kIn l _ h1⟩
def rExtendR (K:PySem.W.Frag):V->List V->Hp->VK->Prop:=λx vs H Q=>∃ l b xs zs,x=.ref l/\vs=[.ref b]/\H l=some (.lst xs)/\RdK K H b zs/\xs.length+zs.length<=sizeLine/\Q .non (upd H l (.lst (xs++zs)))
theorem jA':MtM X "list.extend" (rExtendR X.K):=by
 intro aa s U H x vs v us Q I rx rv h
 obtain ⟨l,b,xs,zs,rfl,rfl,hH,hB,hz,q⟩:=h
 cases rx
 obtain ⟨u,rfl,ru⟩:=rv.one
 cases ru
 obtain ⟨z,af,n,r,hl,e⟩:=I.lstM hH
 obtain ⟨z2,bL,n2,r2,dR,e2⟩:=fP' I hB
 have hsz:af.toArray.size+bL.toArray.size<=sizeLine:=by rw [size_toArray,size_toArray];omega
 have jO:¬ (!af.toArray.isEmpty&&listTooLong (af.toArray.size+bL.toArray.size))=true:=by
  rw [notLongL hsz,Bool.and_false]
  exact Bool.false_ne_true
 refine call_meets F.slot_list_extend ⟨_,e,rfl⟩ F.entry_list_extend (F.args_list_extend_2 _ _)
  (AutoSeq1.list_extend_list_list_0 l af.toArray n b bL.toArray n2 jO (by rw [size_toArray];omega) (by omega)) ⟨e,e2,?_⟩
 refine ⟨.non,_,I.lset (its':=af++bL) hH e (by simp) (r.append r2) ?_,rfl,q⟩
 rw [length_append]
 omega
theorem hl' {i:Nat}{x:Str}{p1 ba aC:Pos} (hv:PE X (.Name x p1) (tVar i)) (ha:ED X B e ga) (hs:swapsWith (.Call (.Attribute (.Name x p1) "append" ba) [e] [] aC) none pos.line X.env=pure false:=by rfl)
  (gA:starEach [e] X.env=(false,eval e X.env)::starEach [] X.env:=by rfl)
  (cS:attributeBase (.Name x p1) "append" X.env (eval (.Name x p1) X.env)=eval (.Name x p1) X.env:=by rfl)
  (bY:((backTo aC (starEach [e] X.env)).all (λx=>!x.1)&&(backToKw aC (keywordEach [] X.env)).all (λx=>x.1.isSome)
   &&decide ([e].length+([]:List Keyword).length+(if ([]:List Keyword).isEmpty then 0 else 1) < 30))=true:=by rfl)
  (cU:(ba.endLine == aC.line)=true:=by rfl) (bZ:(backTo aC (starEach [] X.env)).any (·.1)=false:=by rfl) :
  SD X B (.Expr (.Call (.Attribute (.Name x p1) "append" ba) [e] [] aC) pos) (appS i ga) :=
 PS.imp (iI' (nr' PySem.F.plainAttrs_list PySem.F.slot_list_append PySem.F.type_list_append gg' hv (bY' ha dM' gA) cS bY cU gA bZ) hs) λE U H q=>by
  obtain ⟨G,I,Z,f,aj,r,e1,k⟩:=q
  obtain ⟨hm,e1⟩:=b1' e1
  obtain ⟨d1,ae,e2,e3⟩:=ac' e1
  obtain ⟨d2,ao,e4,e5⟩:=ac' e3
  cases e5
  obtain ⟨p,xs,h1,h2⟩:=bl' hm r
  refine ⟨_,h1,.inl ⟨rfl,xs,SqL.of h2⟩,G,I,Z,d1,ae,r,e2,λv H1 I1 r1 g1 hd=>?_⟩
  obtain ⟨p',aW,ds,es,h3,h4,h5,h6,h7⟩:=hh' e4 r1
  have hp:p'=p:=by rw [h1] at h3;cases h3;rfl
  subst hp
  obtain ⟨hl,rfl⟩:=aq' h6
  refine ⟨p',aW,v,rfl,rfl,h4,?_,k U _ I1 (h7 _ (IsA.append h5 (IsA.cons hd IsA.nil))) g1⟩
  rw [← h5.length]
  exact lt_of_lt_of_le hl (cg' (le_refl _))
theorem pJ' {i:Nat}{x:Str}{p1 ba aC:Pos} (hv:PE X (.Name x p1) (tVar i)) (ha:ED X B e ga) (hs:swapsWith (.Call (.Attribute (.Name x p1) "extend" ba) [e] [] aC) none pos.line X.env=pure false:=by rfl)
  (gA:starEach [e] X.env=(false,eval e X.env)::starEach [] X.env:=by rfl)
  (cS:attributeBase (.Name x p1) "extend" X.env (eval (.Name x p1) X.env)=eval (.Name x p1) X.env:=by rfl)
  (bY:((backTo aC (starEach [e] X.env)).all (λx=>!x.1)&&(backToKw aC (keywordEach [] X.env)).all (λx=>x.1.isSome)
   &&decide ([e].length+([]:List Keyword).length+(if ([]:List Keyword).isEmpty then 0 else 1) < 30))=true:=by rfl)
  (cU:(ba.endLine == aC.line)=true:=by rfl) (bZ:(backTo aC (starEach [] X.env)).any (·.1)=false:=by rfl) :
  SD X B (.Expr (.Call (.Attribute (.Name x p1) "extend" ba) [e] [] aC) pos) (extS i ga) :=
 PS.imp (iI' (nr' PySem.F.plainAttrs_list PySem.F.slot_list_extend PySem.F.type_list_extend jA' hv (bY' ha dM' gA) cS bY cU gA bZ) hs) λE U H q=>by
  obtain ⟨G,I,Z,f,aj,r,e1,k⟩:=q
  obtain ⟨hm,e1⟩:=b1' e1
  obtain ⟨d1,ae,e2,e3⟩:=ac' e1
  obtain ⟨d2,ao,e4,e5⟩:=ac' e3
  cases e5
  obtain ⟨p,xs,h1,h2⟩:=bl' hm r
  refine ⟨_,h1,.inl ⟨rfl,xs,SqL.of h2⟩,G,I,Z,d1,ae,r,e2,λv H1 I1 r1 g1 hd=>?_⟩
  obtain ⟨p',aW,ds,es,h3,h4,h5,h6,h7⟩:=hh' e4 r1
  have hp:p'=p:=by rw [h1] at h3;cases h3;rfl
  subst hp
  cases d1 with
  | lst zs =>
   obtain ⟨a,ys,rfl,i1,i2⟩:=ar' hd
   obtain ⟨hl,rfl⟩:=aq' h6
   refine ⟨p',a,aW,ys,rfl,rfl,h4,Same.rdK r1.iH i1,?_,k U _ I1 (h7 _ (IsA.append h5 i2)) g1⟩
   rw [← h5.length,← i2.length]
   exact cg' hl
  | _=>cases h6
noncomputable def asI (d:D):Option Int:=match d with
 | .int i=>some i
 | _=>none
theorem iO' {d:D}{i:Int} (h:asI d=some i):d=.int i:=by
 cases d<;>simp [asI] at h
 rw [h]
def stF (k:Int) (d:D) (ds:List D):Option (List D):=(ixN ds.length k).map λj=>ds.set j d
noncomputable def stS (i:Nat) (gi gv:M D):M Fl:=bnd gv λd=>mutS i (bnd gi λn=>bnd (lft (asI n)) λk=>bnd (wr i (stF k d)) λ_=>ret .nx)
theorem eg' {i:Nat}{x:Str}{p1 p2:Pos}{ie:Expr}{gi:M D} (hv:PE X (.Name x p1) (tVar i)) (hi:ED X B ie gi) (he:ED X B e ga)
  (ha:∀ v,assign (.Subscript (.Name x p1) ie p2) X.env v=(do
   let ov ← holding [v] (eval (.Name x p1) X.env)
   let iv ← holding [v,ov] (eval ie X.env)
   standAt p2
   holding [v,ov,iv] (setItem ov iv v)
   release [v,ov,iv] []):=by intro _;rfl)
  (hs:swapsWithSole [.Subscript (.Name x p1) ie p2] e pos.line X.env=pure false:=by rfl) (hw:swappedStores [.Subscript (.Name x p1) ie p2] e X.env=pure none:=by rfl)
  (h1:(assignEach [.Subscript (.Name x p1) ie p2] X.env).map (·.2)=[assign (.Subscript (.Name x p1) ie p2) X.env]:=by rfl) :
  SD X B (.Assign [.Subscript (.Name x p1) ie p2] e pos) (stS i gi ga):=PS.imp (pk' he (pj' hv hi l8' ha) hs hw h1) λE U H q=>by
 obtain ⟨G,I,Z,f,aj,r,e1,k⟩:=q
 obtain ⟨d,ae,e2,e3⟩:=ac' e1
 obtain ⟨hm,e3⟩:=b1' e3
 obtain ⟨n,ao,e4,e5⟩:=ac' e3
 obtain ⟨z,aQ,e6,e7⟩:=ac' e5
 obtain ⟨e8,rfl⟩:=am' e6
 obtain ⟨u,aY,f1,f2⟩:=ac' e7
 cases f2
 have:=iO' e8
 subst this
 refine ⟨G,I,Z,d,ae,r,e2,λv H1 I1 r1 g1 hd=>?_⟩
 obtain ⟨p,xs,h1,h2⟩:=bl' hm r1
 refine ⟨_,h1,G,I1,ae,_,_,r1,e4,λw H2 I2 r2 g2 hw=>?_⟩
 obtain ⟨p',aW,ds,es,h3,h4,h5,h6,h7⟩:=hh' f1 r2
 have hp:p'=p:=by rw [h1] at h3;cases h3;rfl
 subst hp
 unfold stF at h6
 cases hj:ixN ds.length z with
 | none=>rw [hj] at h6;cases h6
 | some j =>
  rw [hj] at h6
  cases h6
  exact ⟨p',aW,z,j,rfl,al' hw,h4,by rw [← h5.length];exact hj,k U _ I2 (h7 _ (IsA.set (hd.mono g2.up) j h5)) (g1.trans g2)⟩
def Yields (K:PySem.W.Frag) (I:Hp) (ds:List D) (J:It):Prop:=∀ (i:Nat) (H1:Hp),Same I H1 →
 (∀ d,ds[i]?=some d->J.go i H1/\∀ x H2,J.yld i H1 x H2->(H2=H1/\Is K I d x)\/(∃ p es xs,d=.tup es/\x=.ref p/\H1 p=none/\H2=upd H1 p (.tup xs)/\IsA K I es xs))/\(ds.length<=i->J.stop i H1)
noncomputable def tI (K:PySem.W.Frag) (B:BB) (g:M (List D)):TI:=λU H R=>∃ G I Z ds aj,Rep K B G I H U Z/\g Z=some (ds,aj)/\∀ J H' I',Rep K B G I' H' U aj->Grow G I I'->Yields K I' ds J->R J H'
def ITD (X:Cx) (B:BB) (tg iter:Expr) (g:M (List D)):Prop:=PI X tg iter (tI X.K B g)
theorem pK' {tg l:Expr}{tl:TE} (hl:PE X l tl):PI X tg l (λU H R=>tl U H λx H1=>(∃ a,x=.ref a/\(∃ xs,SqL X.K H1 a xs)/\R (Itl X.K a) H1)\/(∃ a,x=.ref a/\(∃ xs,SqT X.K H1 a xs)/\R (Itt X.K a) H1)):=by
 intro aa s U H R I h
 refine thn (hl aa s U H _ I h) λv s1 ⟨x,H1,I1,r1,q1⟩=>?_
 rcases q1 with ⟨a,e,⟨xs,hq⟩,q⟩ | ⟨a,e,⟨xs,hq⟩,q⟩
 ·subst e
  cases r1
  obtain ⟨af,rv,p,hz⟩:=I1.list hq
  refine wpAny_pyIter_list p.isList ?_
  refine ⟨s1.heap.objs.size,[s1.heap.objs.size],_,_,H1,rfl,I1.kept (t':=s1.toks) λb o e=>get?_push_of_some _ e,ki' a _,⟨_,get?_push_size _ rfl,rfl,rfl⟩,λb hb=>?_,q⟩
  have e:b=s1.heap.objs.size:=by simpa using hb
  subst e
  exact I1.fpOk (le_refl _) (I1.hok.fresh (le_refl _))
 ·subst e
  cases r1
  obtain ⟨af,rv,p,hz⟩:=I1.tuple hq
  refine wpAny_pyIter_tuple (show s1.heap.IsTuple a af.toArray from p) ?_
  refine ⟨s1.heap.objs.size,[s1.heap.objs.size],_,_,H1,rfl,I1.kept (t':=s1.toks) λb o e=>get?_push_of_some _ e,jq' a _,⟨_,get?_push_size _ rfl,rfl,rfl⟩,λb hb=>?_,q⟩
  have e:b=s1.heap.objs.size:=by simpa using hb
  subst e
  exact I1.fpOk (le_refl _) (I1.hok.fresh (le_refl _))
noncomputable def seqI (d:D):Option (List D):=match d with
 | .lst ds=>some ds
 | .tup ds=>some ds
 | _=>none
def itS (g:M D):M (List D):=bnd g λd=>lft (seqI d)
theorem a5' {tg:Expr} (ha:ED X B a ga):ITD X B tg a (itS ga):=PI.imp (pK' ha) λU H R q=>by
 obtain ⟨G,I,Z,ds,aj,r,e1,k⟩:=q
 obtain ⟨d,ae,e2,e3⟩:=ac' e1
 obtain ⟨e4,rfl⟩:=am' e3
 refine ⟨G,I,Z,d,_,r,e2,λv H1 I1 r1 g1 hd=>?_⟩
 cases d with
 | lst es =>
  cases e4
  obtain ⟨l,xs,rfl,h1,h2⟩:=ar' hd
  refine .inl ⟨l,rfl,⟨xs,(Same.rdK r1.iH h1).sq⟩,k _ _ _ r1 g1 λi H2 s2=>⟨λd hd=>?_,λhi=>⟨xs,(Same.rdK s2 h1).sq,by rw [← h2.length];exact hi⟩⟩⟩
  obtain ⟨x,e5,e6⟩:=h2.get hd
  refine ⟨⟨xs,x,(Same.rdK s2 h1).sq,e5⟩,λy H3 hy=>.inl ⟨hy.1,?_⟩⟩
  have:=hy.2 xs ((Same.rdK s2 h1).sq)
  rw [e5] at this;cases this
  exact e6
 | tup es =>
  cases e4
  obtain ⟨l,xs,rfl,h1,h2⟩:=av' hd
  refine .inr ⟨l,rfl,⟨xs,Same.sqT r1.iH h1⟩,k _ _ _ r1 g1 λi H2 s2=>⟨λd hd=>?_,λhi=>⟨xs,Same.sqT s2 h1,by rw [← h2.length];exact hi⟩⟩⟩
  obtain ⟨x,e5,e6⟩:=h2.get hd
  refine ⟨⟨xs,x,Same.sqT s2 h1,e5⟩,λy H3 hy=>.inl ⟨hy.1,?_⟩⟩
  have:=hy.2 xs (Same.sqT s2 h1)
  rw [e5] at this;cases this
  exact e6
 | _=>cases e4
noncomputable def rngD (lo:Int) (n:Nat):List D:=(range n).map λ(k:Nat)=>D.int (lo+(k:Int))
theorem fk' {K:PySem.W.Frag}{I:Hp} (lo:Int) (n:Nat):Yields K I (rngD lo n) (Itr lo n):=λi H1 s1=>by
 refine ⟨λd hd=>?_,λhi=>?_⟩
 ·unfold rngD at hd
  rw [getElem?_map] at hd
  cases e:(range n)[i]? with
  | none=>rw [e] at hd;cases hd
  | some j =>
   rw [e] at hd
   cases hd
   obtain ⟨h1,h2⟩:=List.getElem?_eq_some_iff.mp e
   rw [getElem_range] at h2
   rw [length_range] at h1
   subst h2
   refine ⟨h1,λx H2 hy=>.inl ⟨hy.1,?_⟩⟩
   rw [hy.2]
   exact Is.int _
 ·unfold rngD at hi
  rw [length_map,length_range] at hi
  exact hi
noncomputable def rngI1 (ds:List D):Option (List D):=match ds with
 | [.int j]=>if -1000000<=j/\j<=1000000 then some (rngD 0 j.toNat) else none
 | _=>none
noncomputable def rngI2 (ds:List D):Option (List D):=match ds with
 | [.int i,.int j]=>if (-1000000<=i/\i<=1000000)/\-1000000<=j/\j<=1000000 then some (rngD i (j - i).toNat) else none
 | _=>none
theorem kA' {ds es:List D} (h:rngI1 ds=some es):∃ j:Int,ds=[.int j]/\(-1000000<=j/\j<=1000000)/\es=rngD 0 j.toNat:=by
 unfold rngI1 at h
 split at h
 ·obtain ⟨h1,h2⟩:=aq' h
  exact ⟨_,rfl,h1,h2⟩
 ·cases h
theorem gk' {ds es:List D} (h:rngI2 ds=some es):∃ i j:Int,ds=[.int i,.int j]/\((-1000000<=i/\i<=1000000)/\-1000000<=j/\j<=1000000)/\es=rngD i (j - i).toNat:=by
 unfold rngI2 at h
 split at h
 ·obtain ⟨h1,h2⟩:=aq' h
  exact ⟨_,_,rfl,h1,h2⟩
 ·cases h
theorem dq' {tg:Expr}{p:Pos}{t:M (List D)} (hg:Gl X "range") (hm:X.mg "range"=none) (ha:AD X B [a] t) (hs:starEach [a] X.env=[(false,eval a X.env)]:=by rfl):ITD X B tg (.Call (.Name "range" p) [a] [] pos) (fn1 rngI1 t) :=
 PI.imp (kj' hg hm ha hs) λU H R q=>by
  obtain ⟨G,I,Z,ds,aj,r,e1,k⟩:=q
  obtain ⟨d,ae,e2,e3⟩:=ac' e1
  obtain ⟨e4,rfl⟩:=am' e3
  obtain ⟨j,rfl,⟨h1,h2⟩,rfl⟩:=kA' e4
  refine ⟨G,I,Z,_,_,r,e2,λvs H1 I1 r1 g1 hd=>?_⟩
  obtain ⟨x,rfl,hx⟩:=hd.one
  exact ⟨j,by rw [al' hx],by omega,by omega,k _ _ _ r1 g1 (fk' _ _)⟩
theorem eI' {tg:Expr}{p:Pos}{t:M (List D)} (hg:Gl X "range") (hm:X.mg "range"=none) (ha:AD X B [a,b] t) (hs:starEach [a,b] X.env=[(false,eval a X.env),(false,eval b X.env)]:=by rfl) (bA:starEach [b] X.env=[(false,eval b X.env)]:=by rfl) :
  ITD X B tg (.Call (.Name "range" p) [a,b] [] pos) (fn1 rngI2 t) :=
 PI.imp (kl' hg hm ha hs bA) λU H R q=>by
  obtain ⟨G,I,Z,ds,aj,r,e1,k⟩:=q
  obtain ⟨d,ae,e2,e3⟩:=ac' e1
  obtain ⟨e4,rfl⟩:=am' e3
  obtain ⟨i,j,rfl,h1,rfl⟩:=gk' e4
  refine ⟨G,I,Z,_,_,r,e2,λvs H1 I1 r1 g1 hd=>?_⟩
  obtain ⟨x,y,rfl,hx,hy⟩:=hd.two
  exact ⟨i,j,by rw [al' hx,al' hy],by omega,k _ _ _ r1 g1 (fk' _ _)⟩
noncomputable def forM (ay:D->M Unit) (body:M Fl):List D->M Fl
 | []=>ret .nx
 | d::ds=>bnd (ay d) λ_=>bnd body λf=>match f with
  | .nx=>forM ay body ds
  | .ct=>forM ay body ds
  | .bk=>ret .nx
  | .rt r=>ret (.rt r)
def forS (it:M (List D)) (ay:D->M Unit) (body:M Fl):M Fl:=bnd it λds=>forM ay body ds
theorem pL' {m:Nat}{iter tg:Expr}{body:List Stmt}{it:M (List D)}{ay:D->M Unit} (hp:PassesOwn (model X.prog X.w) X.A X.env X.xe) (hc:X.calm=true) (hi:ITD X B tg iter it) (hg:GD X B m tg ay) (hb:SDs X B body g)
  (hs:∀ x,foldedSetIterable iter X.env x=pure x:=by intro _;rfl):SD X B (.For tg iter body [] pos) (forS it ay g):=PS.imp (pl' hp hc hi hg hb hs) λE U H q=>by
 obtain ⟨G,I,Z,f,aj,r,e1,k⟩:=q
 obtain ⟨ds,ae,e2,e3⟩:=ac' e1
 refine ⟨G,I,Z,ds,ae,r,e2,λJ H1 I1 r1 g1 y=>?_⟩
 refine ⟨λi m U H=>∃ I2 ao,Rep X.K B G I2 H U ao/\Grow G I1 I2/\forM ay g (ds.drop i) ao=some (f,aj)/\i<=ds.length/\m=ds.length - i,⟨ds.length,I1,ae,r1,Grow.refl _ _,by simpa using e3,zero_le _,rfl⟩,?_⟩
 rintro i m' aZ H2 ⟨I2,ao,r2,g2,e4,bP,rfl⟩
 obtain ⟨yg,ys⟩:=y i H2 (g2.up.trans r2.iH)
 by_cases bt:i < ds.length
 ·have hd:ds.drop i=ds[i]::ds.drop (i+1):=drop_eq_getElem_cons bt
  obtain ⟨go,yld⟩:=yg ds[i] (getElem?_eq_getElem bt)
  rw [hd] at e4
  obtain ⟨u,aQ,e5,e6⟩:=ac' e4
  obtain ⟨fl,aY,e7,e8⟩:=ac' e6
  refine .inr ⟨go,λaq H'=>∃ I3,Rep X.K B G I3 H' aq aY/\Grow G I1 I3/\(fl=.nx\/fl=.ct),λaq H' ⟨I3,r3,g3,hf⟩=>⟨ds.length - (i+1),by omega,I3,aY,r3,g3,?_,bt,rfl⟩,λx H3 hy=>?_⟩
  ·rcases hf with rfl | rfl<;>exact e8
  ·have mT:∀ I3,Rep X.K B G I3 H3 aZ ao->Grow G I2 I3->Is X.K I3 ds[i] x->tGD X.K B m ay x aZ H3 λaZ H2=>tS X.K B g { E with nx:=λaq H'=>∃ I3,Rep X.K B G I3 H' aq aY/\Grow G I1 I3/\(fl=.nx\/fl=.ct),ct:=λaq H'=>∃ I3,Rep X.K B G I3 H' aq aY/\Grow G I1 I3/\(fl=.nx\/fl=.ct),bk:=E.nx } aZ H2:=by
    intro I3 r3 g3 hx
    refine ⟨G,I3,ao,ds[i],aQ,r3,hx,e5,λmU H4 I4 r4 g4 _=>⟨G,I4,aQ,fl,aY,r4,e7,λeB H5 I5 r5 g5=>?_⟩⟩
    have gg:Grow G I1 I5:=g2.trans (g3.trans (g4.trans g5))
    cases fl with
    | nx=>exact ⟨I5,r5,gg,.inl rfl⟩
    | ct=>exact ⟨I5,r5,gg,.inr rfl⟩
    | bk=>cases e8;exact k eB H5 I5 r5 (g1.trans gg)
    | rt v=>cases e8;exact k eB H5 I5 r5 (g1.trans gg)
   rcases yld x H3 hy with ⟨rfl,hx⟩ | ⟨p,es,xs,dI,rfl,eC,rfl,hx⟩
   ·exact mT I2 r2 (Grow.refl _ _) (hx.mono g2.up)
   ·refine mT _ (r2.alloc eC _) (r2.growAlloc eC _) ?_
    rw [dI]
    exact Is.tup (SqT.of ag') ((hx.mono g2.up).mono (aA' (r2.iFree eC) _))
 ·have eD:i=ds.length:=by omega
  subst eD
  rw [drop_length] at e4
  cases e4
  exact .inl ⟨ys (le_refl _),k aZ H2 I2 r2 (g1.trans g2)⟩
end
noncomputable def fin:List R->Gm->Option (List R)
 | [],_=>some []
 | .val d::rs,_::Z=>match fin rs Z with
  | some l=>some (.val d::l)
  | none=>none
 | .bor _::rs,some (.bor ds)::Z=>match fin rs Z with
  | some l=>some (.bor ds::l)
  | none=>none
 | _,_=>none
noncomputable def flR:Fl->Option R
 | .rt r=>some r
 | .nx=>some (.val .non)
 | _=>none
noncomputable def fnD1 (n:Nat) (body:M Fl) (rs:List R):Option (R×List R) :=
 match body (rs.map some++replicate (n - rs.length) none) with
 | some (f,aj)=>match flR f with
  | some r=>match fin rs aj with
   | some l=>some (r,l)
   | none=>none
  | none=>none
 | none=>none
noncomputable def fnD (n ar:Nat) (body:M Fl) (rs:List R):Option (R×List R):=if rs.length=ar then fnD1 n body rs else none
noncomputable def noOwn:R->Bool
 | .own _=>false
 | _=>true
noncomputable def vB (vs:List V):BB:=λi=>(vs.map some)[i]?
noncomputable def spD (K:PySem.W.Frag) (g:List R->Option (R×List R)):Sp:=λvs H Q _=>∃ (G I:Hp) (rs:List R) (r:R) (aT:List R),Rep K (vB vs) G I H (vs.map some) (rs.map some)/\rs.all noOwn=true/\g rs=some (r,aT) ∧
 ∀ v H' I',Rep K (vB vs) G I' H' (vs.map some) (aT.map some)->Grow G I I'->ResOk K G I' H' (vs.map some) (aT.map some) r v->Q v H'
theorem eh':∀ {rs l:List R}{Z:Gm},fin rs Z=some l->l.length=rs.length/\∀ (i:Nat) (r:R),l[i]?=some r->(∃ d,r=.val d/\rs[i]?=some (.val d))\/(∃ ds,r=.bor ds/\Z[i]?=some (some (.bor ds)))
 | [],l,Z,h=>by
  rw [fin] at h;cases h
  exact ⟨rfl,λi r e=>by simp at e⟩
 | .val d::rs,l,[],h=>by simp [fin] at h
 | .bor d::rs,l,[],h=>by simp [fin] at h
 | .own d::rs,l,Z,h=>by cases Z<;>simp [fin] at h
 | .fro d::rs,l,Z,h=>by cases Z<;>simp [fin] at h
 | .dic d::rs,l,Z,h=>by cases Z<;>simp [fin] at h
 | .val d::rs,l,o::Z,h=>by
  rw [fin] at h
  cases e:fin rs Z with
  | none=>rw [e] at h;cases h
  | some l' =>
   rw [e] at h;cases h
   obtain ⟨h1,h2⟩:=eh' e
   refine ⟨by simp [h1],λi r er=>?_⟩
   cases i with
   | zero=>simp at er;subst er;exact .inl ⟨d,rfl,rfl⟩
   | succ i =>
    rcases h2 i r (by simpa using er) with ⟨d',e1,e2⟩ | ⟨ds,e1,e2⟩
    ·exact .inl ⟨d',e1,by simpa using e2⟩
    ·exact .inr ⟨ds,e1,by simpa using e2⟩
 | .bor d::rs,l,none::Z,h=>by simp [fin] at h
 | .bor d::rs,l,some (.val x)::Z,h=>by simp [fin] at h
 | .bor d::rs,l,some (.own x)::Z,h=>by simp [fin] at h
 | .bor d::rs,l,some (.fro x)::Z,h=>by simp [fin] at h
 | .bor d::rs,l,some (.dic x)::Z,h=>by simp [fin] at h
 | .bor d::rs,l,some (.bor x)::Z,h=>by
  rw [fin] at h
  cases e:fin rs Z with
  | none=>rw [e] at h;cases h
  | some l' =>
   rw [e] at h;cases h
   obtain ⟨h1,h2⟩:=eh' e
   refine ⟨by simp [h1],λi r er=>?_⟩
   cases i with
   | zero=>simp at er;subst er;exact .inr ⟨x,rfl,rfl⟩
   | succ i =>
    rcases h2 i r (by simpa using er) with ⟨d',e1,e2⟩ | ⟨ds,e1,e2⟩
    ·exact .inl ⟨d',e1,by simpa using e2⟩
    ·exact .inr ⟨ds,e1,by simpa using e2⟩
theorem getMap {α β:Type}{f:α->β}{l:List α}{i:Nat}{b:β} (h:(l.map f)[i]?=some b):∃ a,l[i]?=some a/\b=f a:=by
 rw [getElem?_map] at h
 cases e:l[i]? with
 | none=>rw [e] at h;cases h
 | some a=>rw [e] at h;exact ⟨a,rfl,(Option.some.inj h).symm⟩
theorem bE' {α:Type}{l:List α}{n i:Nat}{a:α} (h:(l.map some++replicate n (none:Option α))[i]?=some (some a)):l[i]?=some a:=by
 by_cases hi:i < (l.map some).length
 ·rw [getElem?_append_left hi] at h
  obtain ⟨b,e1,e2⟩:=getMap h
  cases e2;exact e1
 ·rw [getElem?_append_right (by omega),List.getElem?_replicate] at h
  split at h<;>cases h
section
variable {P:Program}{w:World}{K:PySem.W.Frag}{mg:Str->Option Value}{base:Heap}
theorem a4' {x qual:Str}{st:Stmt}{f:Addr}{fd:FuncData}{N ps:List Str}{k:Nat} (F:Fun K x qual st f fd) (S:FnScope N ps (defScope st)) (g:M Fl)
  (hb:∀ (ax:Value) (A:Around) (outer:List Env) (s:Shared) (H:Hp) (E:XK) (B:BB),Room k (A.deeper (envOfC qual (defScope st) s.heap.objs.size f ax)) →
   SDs (cxOf CX0 P w K mg base N qual (defScope st) f ax A outer s H E).nox B (defBody st) g):FnOk P w K mg base CX0 (k+1) f fd ps (spD K (fnD N.length ps.length g)):=by
 refine F.ok S (λvs H Q E h=>?_) (λax A outer s H vs Q E hr h=>?_)
 ·obtain ⟨_,_,rs,_,_,h1,_,h2,_⟩:=h
  unfold fnD at h2
  by_cases hc:rs.length=ps.length
  ·rw [← hc];simpa using h1.len
  ·rw [if_neg hc] at h2;cases h2
 ·obtain ⟨G,I,rs,r,aT,h2,h3,h4,h5⟩:=h
  have hl:vs.length=rs.length:=by simpa using h2.len
  refine ⟨_,hb ax A outer s H E (λi=>(L2.start N vs)[i]?) hr,?_⟩
  unfold fnD at h4
  have hc:rs.length=ps.length:=by
   by_cases hc:rs.length=ps.length
   ·exact hc
   ·rw [if_neg hc] at h4;cases h4
  rw [if_pos hc] at h4
  unfold fnD1 at h4
  cases e1:g (rs.map some++replicate (N.length - rs.length) none) with
  | none=>rw [e1] at h4;cases h4
  | some q =>
   obtain ⟨fl,aj⟩:=q
   rw [e1] at h4
   dsimp only at h4
   cases e2:flR fl with
   | none=>rw [e2] at h4;cases h4
   | some rr =>
    rw [e2] at h4
    dsimp only at h4
    cases e3:fin rs aj with
    | none=>rw [e3] at h4;cases h4
    | some l =>
     rw [e3] at h4
     obtain ⟨rfl,rfl⟩:rr=r/\l=aT:=by cases h4;exact ⟨rfl,rfl⟩
     have dL:∀ {i:Nat}{v:V},vs[i]?=some v->(L2.start N vs)[i]?=some (some v):=λ{i v} e=>by
      unfold L2.start
      rw [getElem?_append_left (by rw [length_map];exact (List.getElem?_eq_some_iff.mp e).1),getElem?_map,e];rfl
     have eE:∀ {i:Nat}{v:V},(L2.start N vs)[i]?=some (some v)->vs[i]?=some v:=λ{i v} e=>bE' e
     have gC:Rep K (λi=>(L2.start N vs)[i]?) G I H (L2.start N vs) (rs.map some++replicate (N.length - rs.length) none):={
      iH:=h2.iH,gH:=h2.gH
      len:=by unfold L2.start;rw [length_append,length_append,length_map,length_map,length_replicate,length_replicate,hl]
      slot:=λi q e=>by
       have e':=bE' e
       obtain ⟨v,e4,e5⟩:=h2.slot i q (by rw [getElem?_map,e'];rfl)
       obtain ⟨v',e6,e7⟩:=getMap e4
       cases e7
       exact ⟨v,dL e6,e5⟩
      dist:=λi j q q' v e e' m m' s1 s2=>h2.dist i j q q' v (by rw [getElem?_map,bE' e];rfl) (by rw [getElem?_map,bE' e'];rfl) m m' (by rw [getElem?_map,eE s1];rfl) (by rw [getElem?_map,eE s2];rfl)
      bor:=λi ds e=>rfl }
     obtain ⟨f1,f2⟩:=eh' e3
     -- behind the body
     have cV:∀ {aq:L2.St}{H' I':Hp},Rep K (λi=>(L2.start N vs)[i]?) G I' H' aq aj->Grow G I I'->Rep K (vB vs) G I' H' (vs.map some) (l.map some):=λ{aq H' I'} r' g'=>{
      iH:=r'.iH,gH:=r'.gH
      len:=by rw [length_map,length_map,f1,hl]
      slot:=λi q e=>by
       obtain ⟨q',e4,e5⟩:=getMap e
       cases e5
       rcases f2 i q e4 with ⟨d,rfl,e6⟩ | ⟨ds,rfl,e6⟩
       ·obtain ⟨v,e7,e8⟩:=h2.slot i (.val d) (by rw [getElem?_map,e6];rfl)
        exact ⟨v,e7,Is.mono g'.up e8⟩
       ·obtain ⟨v,e7,e8⟩:=r'.slot i _ e6
        have e9:=r'.bor i ds e6
        rw [e7] at e9
        exact ⟨v,by rw [getElem?_map,eE e9.symm];rfl,e8⟩
      dist:=λi j q q' v e e' m m' s1 s2=>by
       obtain ⟨_,e4,e5⟩:=getMap e
       cases e5
       obtain ⟨_,e6,e7⟩:=getMap e'
       cases e7
       rcases f2 i q e4 with ⟨d,rfl,_⟩ | ⟨ds,rfl,e8⟩
       ·cases m
       rcases f2 j q' e6 with ⟨d,rfl,_⟩ | ⟨ix,rfl,e9⟩
       ·cases m'
       obtain ⟨v1,a1,_⟩:=getMap s1
       obtain ⟨v2,a2,a3⟩:=getMap s2
       have b1:=r'.bor i ds e8
       have b2:=r'.bor j ix e9
       rename_i b3
       cases b3
       cases a3
       rw [dL a1] at b1
       rw [dL a2] at b2
       exact r'.dist i j _ _ v e8 e9 rfl rfl b1 b2
      bor:=λi ds e=>rfl }
     have ap:∀ {aq:L2.St}{H' I':Hp}{p:Addr},Rep K (λi=>(L2.start N vs)[i]?) G I' H' aq aj->Apart aq aj p->Apart (vs.map some) (l.map some) p:=λ{aq H' I' p} r' a i q e m z=>by
      obtain ⟨_,e4,e5⟩:=getMap e
      cases e5
      rcases f2 i q e4 with ⟨d,rfl,_⟩ | ⟨ds,rfl,e8⟩
      ·cases m
      obtain ⟨v1,a1,a2⟩:=getMap z
      cases a2
      exact a i _ e8 rfl ((r'.bor i ds e8).trans (dL a1))
     refine ⟨G,I,_,fl,aj,gC,e1,λaq H' I' r' g'=>?_⟩
     cases fl with
     | nx=>cases e2;exact h5 _ H' I' (cV r' g') g' (show Is K I' D.non V.non from Is.non)
     | bk=>cases e2
     | ct=>cases e2
     | rt r0 =>
      cases e2
      intro v hv
      refine h5 v H' I' (cV r' g') g' ?_
      cases rr with
      | val d=>exact hv
      | bor d=>exact hv
      | fro d=>exact hv
      | dic d =>
       obtain ⟨p,xs,b1,b2,b3,b4,b5,b6⟩:=hv
       exact ⟨p,xs,b1,b2,b3,b4,ap r' b5,b6⟩
      | own d =>
       obtain ⟨p,xs,b1,b2,b3,b4,b5,b6⟩:=hv
       exact ⟨p,xs,b1,b2,b3,b4,ap r' b5,b6⟩
end
mutual
noncomputable def noL:D->Bool
 | .tup ds=>noLA ds
 | .lst _=>false
 | _=>true
noncomputable def noLA:List D->Bool
 | []=>true
 | d::ds=>noL d&&noLA ds
end
noncomputable def tupOf (I0 I:Hp):Hp:=λb=>match I0 b with
 | some o=>some o
 | none=>match I b with
  | some (.lst _)=>none
  | o=>o
theorem hp' {I0 I:Hp}:Same I0 (tupOf I0 I):=λb o e=>by unfold tupOf;rw [e]
theorem eJ' {I0 I:Hp}{b:Addr}{o:HO} (h:tupOf I0 I b=some o):I0 b=some o\/(I0 b=none/\I b=some o/\∀ xs,o≠.lst xs):=by
 unfold tupOf at h
 cases e:I0 b with
 | some o'=>rw [e] at h;cases h;exact .inl rfl
 | none =>
  rw [e] at h
  cases e1:I b with
  | none=>rw [e1] at h;cases h
  | some o' =>
   rw [e1] at h
   cases o'<;>first | (cases h;exact .inr ⟨rfl,rfl,λxs z=>by cases z⟩) | cases h
theorem ht' {I0 I:Hp} (s:Same I0 I){b:Addr}{o:HO} (h:I b=some o) (n:∀ xs,o≠.lst xs):tupOf I0 I b=some o:=by
 unfold tupOf
 cases e:I0 b with
 | some o'=>rw [s b o' e] at h;exact h
 | none =>
  simp only [h]
  split
  ·rename_i z
   cases z
   exact absurd rfl (n _)
  ·rfl
mutual
theorem md' {K:PySem.W.Frag}{I0 I:Hp} (s:Same I0 I):∀ (d:D) (v:V),noL d=true->Is K I d v->Is K (tupOf I0 I) d v
 | .non,_,_,h=>by rw [Is] at h ⊢;exact h
 | .bl _,_,_,h=>by rw [Is] at h ⊢;exact h
 | .int _,_,_,h=>by rw [Is] at h ⊢;exact h
 | .str _,_,_,h=>by rw [Is] at h ⊢;exact h
 | .lst _,_,n,_=>by simp [noL] at n
 | .tup ds,v,n,h=>by
  rw [noL] at n
  obtain ⟨a,xs,rfl,h1,h2⟩:=av' h
  refine Is.tup ?_ (dO' s ds xs n h2)
  rcases h1 with (h1 | ⟨o,h1⟩) | h1
  ·exact .inl (.inl (ht' s h1 λxs z=>by cases z))
  ·exact .inl (.inr ⟨o,ht' s h1 λxs z=>by cases z⟩)
  ·exact .inr h1
theorem dO' {K:PySem.W.Frag}{I0 I:Hp} (s:Same I0 I):∀ (ds:List D) (xs:List V),noLA ds=true->IsA K I ds xs->IsA K (tupOf I0 I) ds xs
 | [],xs,_,h=>by rw [h.nil_inv];exact IsA.nil
 | d::ds,xs,n,h=>by
  rw [noLA,and_eq_true] at n
  obtain ⟨x,r,rfl,h1,h2⟩:=h.cons_inv
  exact IsA.cons (md' s d x n.1 h1) (dO' s ds r n.2 h2)
end
section
variable {X:Cx}{B:BB}{e:Expr}{es:List Expr}{pos p:Pos}{x:Str}{k:Nat}{f:Addr}{fd:FuncData}{ps:List Str}{g:List R->Option (R×List R)}{t:M (List D)}
noncomputable def cvF (g:List R->Option (R×List R)) (ds:List D):Option D:=match g (ds.map .val) with
 | some (.val d,_)=>some d
 | some (.fro d,_)=>some (.lst d)
 | _=>none
noncomputable def coF (g:List R->Option (R×List R)) (ds:List D):Option (List D):=match g (ds.map .val) with
 | some (.own d,_)=>some d
 | some (.fro d,_)=>if noLA d=true then some d else none
 | _=>none
theorem b2' {K:PySem.W.Frag}{G I H:Hp}{U:L2.St}{Z:Gm}{ds:List D}{vs:List V} (r:Rep K B G I H U Z) (h:IsA K I ds vs):Rep K (vB vs) H I H (vs.map some) ((ds.map R.val).map some) where
 iH:=r.iH
 gH:=Same.refl _
 len:=by rw [length_map,length_map,length_map,h.length]
 slot:=λi q e=>by
  obtain ⟨_,e1,e2⟩:=getMap e
  cases e2
  obtain ⟨d,e3,rfl⟩:=getMap e1
  obtain ⟨v,e4,e5⟩:=h.get e3
  exact ⟨v,by rw [getElem?_map,e4];rfl,e5⟩
 dist:=λi j q q' v e e' m=>by
  obtain ⟨_,e1,e2⟩:=getMap e
  cases e2
  obtain ⟨d,e3,rfl⟩:=getMap e1
  cases m
 bor:=λi ds e=>rfl
theorem bs' (ds:List D):(ds.map R.val).all noOwn=true:=by
 induction ds with
 | nil=>rfl
 | cons d r ih=>rw [map_cons,all_cons,ih];rfl
theorem co' {K:PySem.W.Frag}{B':BB}{G I I' H H':Hp}{U aq:L2.St}{Z aj:Gm} (r:Rep K B G I H U Z) (r':Rep K B' H I' H' aq aj) (g':Grow H I I'):Rep K B G I' H' U Z/\Grow G I I' :=
 ⟨r.ext g'.up r'.gH r'.iH g'.new,g'.up,λb o e=>(g'.new b o e).imp (λz=>z) λz=>r.gFree z⟩
theorem t_cv {K:PySem.W.Frag}{E:XK}:∀ U H Q,tD K B (fn1 (cvF g) t) U H Q->tCall (spD K g) [] E (tAD K B t) U H Q:=λU H Q q=>by
 obtain ⟨G,I,Z,d,aj,r,e1,kk⟩:=q
 obtain ⟨ds,ae,e2,e3⟩:=ac' e1
 obtain ⟨e4,rfl⟩:=am' e3
 refine ⟨G,I,Z,ds,_,r,e2,λvs H1 I1 r1 g1 h1=>?_⟩
 show spD K g (vs++[]) H1 Q E
 rw [append_nil]
 unfold cvF at e4
 cases e5:g (ds.map .val) with
 | none=>rw [e5] at e4;cases e4
 | some q =>
  obtain ⟨rr,aT⟩:=q
  rw [e5] at e4
  cases rr with
  | val d' =>
   cases e4
   refine ⟨H1,I1,ds.map .val,.val d,aT,b2' r1 h1,bs' ds,e5,λv H' I' r' g' hv=>?_⟩
   obtain ⟨r2,g2⟩:=co' r1 r' g'
   exact kk v H' I' r2 (g1.trans g2) hv
  | fro d' =>
   cases e4
   refine ⟨H1,I1,ds.map .val,.fro d',aT,b2' r1 h1,bs' ds,e5,λv H' I' r' g' hv=>?_⟩
   obtain ⟨r2,g2⟩:=co' r1 r' g'
   obtain ⟨p,xs,rfl,f1,_,f3⟩:=hv
   exact kk _ H' I' r2 (g1.trans g2) (Is.lst (RdK.of f1) f3)
  | own _=>cases e4
  | bor _=>cases e4
  | dic _=>cases e4
theorem t_co {K:PySem.W.Frag}{E:XK}:∀ U H Q,tO K B (fn1 (coF g) t) U H Q->tCall (spD K g) [] E (tAD K B t) U H Q:=λU H Q q=>by
 obtain ⟨G,I,Z,d,aj,r,e1,kk⟩:=q
 obtain ⟨ds,ae,e2,e3⟩:=ac' e1
 obtain ⟨e4,rfl⟩:=am' e3
 refine ⟨G,I,Z,ds,_,r,e2,λvs H1 I1 r1 g1 h1=>?_⟩
 show spD K g (vs++[]) H1 Q E
 rw [append_nil]
 unfold coF at e4
 cases e5:g (ds.map .val) with
 | none=>rw [e5] at e4;cases e4
 | some q =>
  obtain ⟨rr,aT⟩:=q
  rw [e5] at e4
  cases rr with
  | own d' =>
   cases e4
   refine ⟨H1,I1,ds.map .val,.own d,aT,b2' r1 h1,bs' ds,e5,λv H' I' r' g' hv=>?_⟩
   obtain ⟨r2,g2⟩:=co' r1 r' g'
   obtain ⟨q,xs,rfl,b2,b3,b4,b5,b6⟩:=hv
   exact kk q xs H' I' r2 (g1.trans g2) b2 b3 (r1.gFree b4) (r1.apart b4) b6
  | fro d' =>
   obtain ⟨nl,e4⟩:=aq' e4
   subst e4
   refine ⟨H1,I1,ds.map .val,.fro d,aT,b2' r1 h1,bs' ds,e5,λv H' I' r' g' hv=>?_⟩
   obtain ⟨p,xs,rfl,f1,f2,f3⟩:=hv
   have new:∀ b o,tupOf I1 I' b=some o->I1 b=some o\/H1 b=none:=λb o e=>by
    rcases eJ' e with z | ⟨_,z,_⟩
    ·exact .inl z
    ·exact g'.new b o z
   have r2:Rep K B G (tupOf I1 I') H' U _:=r1.ext hp' r'.gH (λb o e=>by
    rcases eJ' e with z | ⟨_,z,_⟩
    ·exact r'.iH b o (g'.up b o z)
    ·exact r'.iH b o z) new
   refine kk p xs H' (tupOf I1 I') r2 (g1.trans ⟨hp',λb o e=>(new b o e).imp (λz=>z) λz=>r1.gFree z⟩) (r'.iH p _ f1) ?_ (r1.gFree f2) (r1.apart f2) (dO' g'.up _ _ nl f3)
   cases e:tupOf I1 I' p with
   | none=>rfl
   | some o =>
    rcases eJ' e with z | ⟨_,z,zn⟩
    ·rw [r1.iFree f2] at z;cases z
    ·rw [f1] at z;cases z;exact absurd rfl (zn _)
  | val _=>cases e4
  | bor _=>cases e4
  | dic _=>cases e4
variable {vh:Nat}{b:Expr}
theorem nZ' (F:FnOk X.prog X.w X.K X.mg X.base CX0 k f fd ps (spD X.K g)) (hr:Room k X.A) (hg:Gl X x) (hm:X.mg x=some (.ref f)) (hk:keepIn X.K (.ref f)=true) (hb:Binds X.K fd ps []) (ha:AD X B (e::es) t)
  (aS:(x == ("__debug__":Str))=false:=by decide) (he:starEach (e::es) X.env=(false,eval e X.env)::starEach es X.env:=by rfl) (aA:(backTo pos (starEach es X.env)).any (·.1)=false:=by rfl) :
  ED X B (.Call (.Name x p) (e::es) [] pos) (fn1 (cvF g) t):=PE.imp (da' F hr hg hm hk hb .nil pass0 ha aS he aA) t_cv
theorem n0' (F:FnOk X.prog X.w X.K X.mg X.base CX0 k f fd ps (spD X.K g)) (hr:Room k X.A) (hg:Gl X x) (hm:X.mg x=some (.ref f)) (hk:keepIn X.K (.ref f)=true) (hb:Binds X.K fd ps []) (ha:AD X B (e::es) t)
  (aS:(x == ("__debug__":Str))=false:=by decide) (he:starEach (e::es) X.env=(false,eval e X.env)::starEach es X.env:=by rfl) (aA:(backTo pos (starEach es X.env)).any (·.1)=false:=by rfl) :
  EO X B (.Call (.Name x p) (e::es) [] pos) (fn1 (coF g) t):=PE.imp (da' F hr hg hm hk hb .nil pass0 ha aS he aA) t_co
noncomputable def hide (H:Hp) (p:Addr):Hp:=λb=>if b=p then none else H b
theorem gl' {H:Hp}{p:Addr}:hide H p p=none:=by unfold hide;rw [if_pos rfl]
theorem b3' {H:Hp}{p b:Addr} (h:b≠p):hide H p b=H b:=by unfold hide;rw [if_neg h]
theorem kB' {H:Hp}{p:Addr}:Same (hide H p) H:=λb o e=>by
 by_cases h:b=p
 ·subst h;rw [gl'] at e;cases e
 ·rw [b3' h] at e;exact e
noncomputable def bcF (g:List R->Option (R×List R)) (c ds:List D):Option (R×List D):=match g (.bor c::ds.map .val) with
 | some (r,.bor c'::_)=>some (r,c')
 | _=>none
noncomputable def callB (i:Nat) (g:List R->Option (R×List R)) (t:M (List D)):M R:=mutS i (bnd t λds=>λae=>match ae[i]? with
 | some (some (.own c))=>match bcF g c ds with
  | some (r,c')=>some (r,ae.set i (some (.own c')))
  | none=>none
 | some (some (.bor c))=>match bcF g c ds with
  | some (r,c')=>some (r,ae.set i (some (.bor c')))
  | none=>none
 | _=>none)
noncomputable def asV (r:R):Option D:=match r with
 | .val d=>some d
 | _=>none
noncomputable def asO (r:R):Option (List D):=match r with
 | .own d=>some d
 | _=>none
noncomputable def cbV (i:Nat) (g:List R->Option (R×List R)) (t:M (List D)):M D:=bnd (callB i g t) λr=>lft (asV r)
noncomputable def cbO (i:Nat) (g:List R->Option (R×List R)) (t:M (List D)):M (List D):=bnd (callB i g t) λr=>lft (asO r)
theorem Rep.extBut {K:PySem.W.Frag}{G I I' H H':Hp}{U:L2.St}{Z:Gm} (r:Rep K B G I H U Z){q:Addr} (ap:Apart U Z q) (gq:G q=none) (iq:I q=none) (vi:I' q=none) (hI:Same I I') (hH:∀ b o,H b=some o->b≠q->H' b=some o) (iH:Same I' H')
  (new:∀ b o,I' b=some o->I b=some o\/H b=none\/b=q):Rep K B G I' H' U Z where
 iH:=iH
 gH:=λb o e=>hH b o (r.gH b o e) (λz=>by subst z;rw [gq] at e;cases e)
 len:=r.len
 slot:=λi qr e=>by
  obtain ⟨v,e1,e2⟩:=r.slot i qr e
  refine ⟨v,e1,?_⟩
  have mt:qr.ptr=true->∀ ds,Mt K G I H ds v->Mt K G I' H' ds v:=λm ds h=>by
   obtain ⟨p2,xs,h1,h2,h3,h4,h5⟩:=h
   have ne:p2≠q:=λz=>ap i qr e m (by rw [e1,h1,z])
   refine ⟨p2,xs,h1,hH _ _ h2 ne,?_,h4,h5.mono hI⟩
   cases z:I' p2 with
   | none=>rfl
   | some o =>
    rcases new p2 o z with z1 | z1 | z1
    ·rw [h3] at z1;cases z1
    ·rw [h2] at z1;cases z1
    ·exact absurd z1 ne
  cases qr with
  | val d=>exact Is.mono hI e2
  | dic ds =>
   obtain ⟨p2,xs,h1,h2,h3,h4,h5⟩:=e2
   have ne:p2≠q:=λz=>ap i _ e rfl (by rw [e1,h1,z])
   refine ⟨p2,xs,h1,hH _ _ h2 ne,?_,h4,h5.mono hI⟩
   cases z:I' p2 with
   | none=>rfl
   | some o =>
    rcases new p2 o z with z1 | z1 | z1
    ·rw [h3] at z1;cases z1
    ·rw [h2] at z1;cases z1
    ·exact absurd z1 ne
  | own ds=>exact mt rfl ds e2
  | bor ds=>exact mt rfl ds e2
  | fro ds=>obtain ⟨p,xs,f1,f2,f3,f4⟩:=e2;exact ⟨p,xs,f1,hI _ _ f2,f3,f4.mono hI⟩
 dist:=r.dist
 bor:=r.bor
theorem borrow {K:PySem.W.Frag}{G I H:Hp}{U:L2.St}{Z:Gm}{i:Nat}{q q':R}{c c' ds:List D}{rr:R}{ws:List V}{Q:VK}{E:XK} (r:Rep K B G I H U Z) (hq:Z[i]?=some (some q)) (hc:(q=.own c/\q'=.own c')\/(q=.bor c/\q'=.bor c')) (hd:IsA K I ds ws){v0:V} (gD:U[i]?=some (some v0))
  (hg:bcF g c ds=some (rr,c')) (k:∀ v H' I',Rep K B G I' H' U (Z.set i (some q'))->Grow G I I'->ResOk K G I' H' U (Z.set i (some q')) rr v->Q v H'):spD K g (v0::ws) H Q E:=by
 obtain ⟨v,e1,e2⟩:=r.slot i q hq
 rw [gD] at e1
 cases e1
 have hm:q.ptr=true:=by rcases hc with ⟨rfl,_⟩ | ⟨rfl,_⟩<;>rfl
 have mt:Mt K G I H c v0:=by rcases hc with ⟨rfl,_⟩ | ⟨rfl,_⟩<;>exact e2
 obtain ⟨a,xs,rfl,h1,h2,h3,h4⟩:=mt
 unfold bcF at hg
 cases e3:g (.bor c::ds.map .val) with
 | none=>rw [e3] at hg;cases hg
 | some z =>
  obtain ⟨r0,aT⟩:=z
  rw [e3] at hg
  cases aT with
  | nil=>cases hg
  | cons y aT =>
   cases y with
   | val _=>cases hg
   | own _=>cases hg
   | fro _=>cases hg
   | dic _=>cases hg
   | bor c2 =>
    cases hg
    refine ⟨hide H a,I,.bor c::ds.map .val,rr,.bor c'::aT,?_,by rw [all_cons,bs'];rfl,e3,λv H' I' r' g' hv=>?_⟩
    ·have rv:=b2' r hd
     exact {
      iH:=r.iH,gH:=kB'
      len:=by rw [map_cons,map_cons,length_cons,length_cons,rv.len]
      slot:=λj qr e=>by
       cases j with
       | zero=>cases e;exact ⟨_,rfl,a,xs,rfl,h1,h2,gl',h4⟩
       | succ j =>
        obtain ⟨w,e4,e5⟩:=rv.slot j qr (by simpa using e)
        refine ⟨w,by simpa using e4,?_⟩
        have e9:((ds.map R.val).map some)[j]?=some (some qr):=e
        obtain ⟨z,f1,f2⟩:=getMap e9
        cases f2
        obtain ⟨d,f3,rfl⟩:=getMap f1
        exact e5
      dist:=λj l qr vj w e e' m m' s1 s2=>by
       have only:∀ {j:Nat}{qr:R},((R.bor c::ds.map R.val).map some)[j]?=some (some qr)->qr.ptr=true->j=0:=λ{j qr} e m=>by
        cases j with
        | zero=>rfl
        | succ j =>
         have e9:((ds.map R.val).map some)[j]?=some (some qr):=e
         obtain ⟨z,f1,f2⟩:=getMap e9
         cases f2
         obtain ⟨d,f3,rfl⟩:=getMap f1
         cases m
       rw [only e m,only e' m']
      bor:=λj es e=>rfl }
    ·obtain ⟨w,e4,e5⟩:=r'.slot 0 (.bor c') rfl
     cases e4
     obtain ⟨a',aW,e6,f1,f2,f3,f4⟩:=e5
     cases e6
     have b9:Apart U (Z.set i none) a:=λj r1 z m s=>by
      rcases ax' z with ⟨_,z',_⟩ | ⟨n,z'⟩
      ·cases z'
      ·exact n (r.dist j i r1 q _ z' hq m hm s gD)
     have r1:=(r.forget i).extBut (q:=a) b9 h3 h2 f2 g'.up (λb o e n=>r'.gH b o (by rw [b3' n];exact e)) r'.iH (λb o e=>by
      rcases g'.new b o e with z | z
      ·exact .inl z
      ·by_cases n:b=a
       ·exact .inr (.inr n)
       ·rw [b3' n] at z;exact .inr (.inl z))
     have r2:=r1.learn (i:=i) (q:=q') (v:=.ref a) gD (by rcases hc with ⟨_,rfl⟩ | ⟨_,rfl⟩<;>exact ⟨a,aW,rfl,f1,f2,h3,f4⟩) (λm p2 e j r' n z m' s=>by
      cases e
      exact b9 j r' z m' s) (λes z=>by
      rcases hc with ⟨_,rfl⟩ | ⟨rfl,rfl⟩
      ·cases z
      ·exact r.bor i c hq)
     rw [set_set] at r2
     have g2:Grow G I I':=⟨g'.up,λb o e=>by
      rcases g'.new b o e with z | z
      ·exact .inl z
      ·by_cases n:b=a
       ·subst n;exact .inr h3
       ·rw [b3' n] at z;exact .inr (r.gFree z)⟩
     refine k v H' I' r2 g2 ?_
     cases rr with
     | val d=>exact hv
     | bor d=>exact hv
     | fro d =>
      obtain ⟨p2,ys,b1,b2,b3,b4⟩:=hv
      have ne:p2≠a:=λz=>by rw [z,f2] at b2;cases b2
      rw [b3' ne] at b3
      exact ⟨p2,ys,b1,b2,r.gFree b3,b4⟩
     | dic d =>
      obtain ⟨p2,ys,b1,b2,b3,b4,b5,b6⟩:=hv
      have ne:p2≠a:=λz=>b5 0 (.bor c') rfl rfl (by rw [z];rfl)
      rw [b3' ne] at b4
      refine ⟨p2,ys,b1,b2,b3,r.gFree b4,λj r3 z m s=>?_,b6⟩
      rcases ax' z with ⟨rfl,z',_⟩ | ⟨n,z'⟩
      ·rw [gD] at s;cases s;exact ne rfl
      ·exact r.apart b4 j r3 z' m s
     | own d =>
      obtain ⟨p2,ys,b1,b2,b3,b4,b5,b6⟩:=hv
      have ne:p2≠a:=λz=>b5 0 (.bor c') rfl rfl (by rw [z];rfl)
      rw [b3' ne] at b4
      refine ⟨p2,ys,b1,b2,b3,r.gFree b4,λj r3 z m s=>?_,b6⟩
      rcases ax' z with ⟨rfl,z',_⟩ | ⟨n,z'⟩
      ·rw [gD] at s;cases s;exact ne rfl
      ·exact r.apart b4 j r3 z' m s
theorem gm' {i:Nat}{t:M (List D)}{Z aj:Gm}{rr:R} (h:callB i g t Z=some (rr,aj)):isMut Z i=true/\∃ ds ae q q' c c',t Z=some (ds,ae)/\ae[i]?=some (some q)/\((q=.own c/\q'=.own c')\/(q=.bor c/\q'=.bor c'))/\bcF g c ds=some (rr,c')/\aj=ae.set i (some q'):=by
 obtain ⟨hm,h⟩:=b1' h
 obtain ⟨ds,ae,e1,e2⟩:=ac' h
 refine ⟨hm,ds,ae,?_⟩
 cases e:ae[i]? with
 | none=>simp only [e] at e2;cases e2
 | some o =>
  cases o with
  | none=>simp only [e] at e2;cases e2
  | some q =>
   cases q with
   | val d=>simp only [e] at e2;cases e2
   | fro d=>simp only [e] at e2;cases e2
   | dic d=>simp only [e] at e2;cases e2
   | own c =>
    simp only [e] at e2
    cases e3:bcF g c ds with
    | none=>simp only [e3] at e2;cases e2
    | some z =>
     obtain ⟨r0,c'⟩:=z
     simp only [e3] at e2
     cases e2
     exact ⟨.own c,.own c',c,c',e1,rfl,.inl ⟨rfl,rfl⟩,e3,rfl⟩
   | bor c =>
    simp only [e] at e2
    cases e3:bcF g c ds with
    | none=>simp only [e3] at e2;cases e2
    | some z =>
     obtain ⟨r0,c'⟩:=z
     simp only [e3] at e2
     cases e2
     exact ⟨.bor c,.bor c',c,c',e1,rfl,.inr ⟨rfl,rfl⟩,e3,rfl⟩
theorem qz' {K:PySem.W.Frag}{E:XK}{i:Nat}:∀ U H Q,tD K B (cbV i g t) U H Q->tCall (spD K g) [] E (tCons (tVar i) (tAD K B t)) U H Q:=λU H Q q=>by
 obtain ⟨G,I,Z,d,aj,r,e1,kk⟩:=q
 obtain ⟨rr,qC,e2,e3⟩:=ac' e1
 obtain ⟨e4,rfl⟩:=am' e3
 obtain ⟨hm,ds,ae,q,q',c,c',f1,f2,f3,f4,rfl⟩:=gm' e2
 obtain ⟨a,xs,h1,h2⟩:=bl' hm r
 refine ⟨_,h1,G,I,Z,ds,ae,r,f1,λws H1 I1 r1 g1 hd=>?_⟩
 show spD K g ((.ref a::ws)++[]) H1 Q E
 rw [append_nil]
 refine borrow r1 f2 f3 hd h1 f4 λv H' I' r' g' hv=>?_
 cases rr with
 | val d'=>cases e4;exact kk v H' I' r' (g1.trans g') hv
 | own _=>cases e4
 | bor _=>cases e4
 | fro _=>cases e4
 | dic _=>cases e4
theorem qA' {K:PySem.W.Frag}{E:XK}{i:Nat}:∀ U H Q,tO K B (cbO i g t) U H Q->tCall (spD K g) [] E (tCons (tVar i) (tAD K B t)) U H Q:=λU H Q q=>by
 obtain ⟨G,I,Z,d,aj,r,e1,kk⟩:=q
 obtain ⟨rr,qC,e2,e3⟩:=ac' e1
 obtain ⟨e4,rfl⟩:=am' e3
 obtain ⟨hm,ds,ae,q,q',c,c',f1,f2,f3,f4,rfl⟩:=gm' e2
 obtain ⟨a,xs,h1,h2⟩:=bl' hm r
 refine ⟨_,h1,G,I,Z,ds,ae,r,f1,λws H1 I1 r1 g1 hd=>?_⟩
 show spD K g ((.ref a::ws)++[]) H1 Q E
 rw [append_nil]
 refine borrow r1 f2 f3 hd h1 f4 λv H' I' r' g' hv=>?_
 cases rr with
 | own d' =>
  cases e4
  obtain ⟨p2,ys,rfl,b2,b3,b4,b5,b6⟩:=hv
  exact kk p2 ys H' I' r' (g1.trans g') b2 b3 b4 b5 b6
 | val _=>cases e4
 | bor _=>cases e4
 | fro _=>cases e4
 | dic _=>cases e4
theorem me' {i:Nat}{y:Str}{py:Pos} (F:FnOk X.prog X.w X.K X.mg X.base CX0 k f fd ps (spD X.K g)) (hr:Room k X.A) (hg:Gl X x) (hm:X.mg x=some (.ref f)) (hk:keepIn X.K (.ref f)=true) (hb:Binds X.K fd ps []) (hv:PE X (.Name y py) (tVar i)) (ha:AD X B es t)
  (aS:(x == ("__debug__":Str))=false:=by decide) (he:starEach (.Name y py::es) X.env=(false,eval (.Name y py) X.env)::starEach es X.env:=by rfl) (aA:(backTo pos (starEach es X.env)).any (·.1)=false:=by rfl) :
  ED X B (.Call (.Name x p) (.Name y py::es) [] pos) (cbV i g t):=PE.imp (da' F hr hg hm hk hb .nil pass0 (bY' hv ha he) aS he aA) qz'
theorem mf' {i:Nat}{y:Str}{py:Pos} (F:FnOk X.prog X.w X.K X.mg X.base CX0 k f fd ps (spD X.K g)) (hr:Room k X.A) (hg:Gl X x) (hm:X.mg x=some (.ref f)) (hk:keepIn X.K (.ref f)=true) (hb:Binds X.K fd ps []) (hv:PE X (.Name y py) (tVar i)) (ha:AD X B es t)
  (aS:(x == ("__debug__":Str))=false:=by decide) (he:starEach (.Name y py::es) X.env=(false,eval (.Name y py) X.env)::starEach es X.env:=by rfl) (aA:(backTo pos (starEach es X.env)).any (·.1)=false:=by rfl) :
  EO X B (.Call (.Name x p) (.Name y py::es) [] pos) (cbO i g t):=PE.imp (da' F hr hg hm hk hb .nil pass0 (bY' hv ha he) aS he aA) qA'
end
end DL
namespace DL
open PySem PySem.Spec PyProof.Rows L2
noncomputable def relab (sc cr:Scope):Scope:={ sc with names:=sc.names.map λ(n,k)=>if (k == .free&&cr.kind == .function&&cr.names.lookup n == some .cell) then (n,.cell) else (n,k) }
noncomputable def clo (cells:List (Str×Addr)):List (Str×NameKind)->List (Str×Addr)->List (Str×Addr)
 | [],am=>am
 | (n,k)::r,am=>if k == .free then clo cells r ((n,(cells.lookup n).getD 0)::am) else clo cells r am
theorem gn' {env:Env} (f:Str×NameKind->List (Str×Addr)->Sem (ForInStep (List (Str×Addr))))
  (hf:∀ name kind cs,f (name,kind) cs=if kind == .free then (do let a ← cellOf env name;pure (.yield ((name,a)::cs))) else pure (.yield cs)) :
  ∀ (names:List (Str×NameKind)) (am:List (Str×Addr)),(∀ n,(n,NameKind.free)∈names->∃ c,env.cells.lookup n=some c)->(forIn names am f:Sem _)=pure (clo env.cells names am)
 | [],am,_=>by rw [forIn_nil];rfl
 | (n,k)::r,am,h=>by
  rw [forIn_cons,hf]
  unfold clo
  have ih:=λmV=>gn' f hf r mV (λn hn=>h n (mem_cons_of_mem _ hn))
  by_cases hk:(k == NameKind.free)=true
  ·rw [if_pos hk,if_pos hk]
   have cW:k=.free:=by simpa using hk
   subst cW
   obtain ⟨c,hc⟩:=h n mem_cons_self
   have e:cellOf env n=pure c:=by unfold cellOf;rw [hc]
   rw [e,hc]
   simp only [pure_bind,Option.getD_some]
   exact ih _
  ·rw [if_neg hk,if_neg hk]
   simp only [pure_bind]
   exact ih _
theorem db' {scope:Scope}{env:Env} (h:∀ n,(n,NameKind.free)∈scope.names->∃ c,env.cells.lookup n=some c):closureFor scope env=pure (clo env.cells scope.names []):=by
 unfold closureFor
 dsimp only
 rw [gn' (env:=env) _ (λname kind cs=>by cases hk:kind == NameKind.free<;>simp [hk]) scope.names [] h]
 rfl
theorem ei' {cells:List (Str×Addr)}:∀ {names:List (Str×NameKind)}{am:List (Str×Addr)}{x:Str}{c:Addr},(x,c)∈clo cells names am->(x,c)∈am\/((x,NameKind.free)∈names/\c=(cells.lookup x).getD 0)
 | [],am,x,c,h=>.inl h
 | (n,k)::r,am,x,c,h=>by
  unfold clo at h
  by_cases hk:(k == NameKind.free)=true
  ·rw [if_pos hk] at h
   have cW:k=.free:=by simpa using hk
   subst cW
   rcases ei' h with z | ⟨z1,z2⟩
   ·rcases mem_cons.mp z with z | z
    ·cases z;exact .inr ⟨mem_cons_self,rfl⟩
    ·exact .inl z
   ·exact .inr ⟨mem_cons_of_mem _ z1,z2⟩
  ·rw [if_neg hk] at h
   rcases ei' h with z | ⟨z1,z2⟩
   ·exact .inl z
   ·exact .inr ⟨mem_cons_of_mem _ z1,z2⟩
theorem fQ' {cells:List (Str×Addr)}:∀ {names:List (Str×NameKind)}{am:List (Str×Addr)}{x:Str},((x,NameKind.free)∈names\/∃ c,am.lookup x=some c)->∃ c,(clo cells names am).lookup x=some c
 | [],am,x,h=>by
  rcases h with h | h
  ·cases h
  ·exact h
 | (n,k)::r,am,x,h=>by
  unfold clo
  have push:∀ c0:Addr,(∃ c,am.lookup x=some c)->∃ c,((n,c0)::am).lookup x=some c:=λc0 ⟨c,hc⟩=>by
   rw [List.lookup_cons]
   cases x == n
   ·exact ⟨c,hc⟩
   ·exact ⟨c0,rfl⟩
  by_cases hk:(k == NameKind.free)=true
  ·rw [if_pos hk]
   refine fQ' ?_
   rcases h with h | h
   ·rcases mem_cons.mp h with z | z
    ·cases z
     exact .inr ⟨_,by rw [List.lookup_cons,beq_self_eq_true]⟩
    ·exact .inl z
   ·exact .inr (push _ h)
  ·rw [if_neg hk]
   refine fQ' ?_
   rcases h with h | h
   ·rcases mem_cons.mp h with z | z
    ·cases z;exact absurd (by rfl) hk
    ·exact .inl z
   ·exact .inr h
structure CompScope (cr sc:Scope) (N N':List Str) (m:Nat):Prop where
 kind:sc.kind=.function
 nocell:∀ y∈sc.names,y.2≠.cell
 locals:∀ y∈sc.names,y.2=.local->sc.names.lookup y.1=some .local
 free:∀ y∈sc.names,y.2=.free->cr.names.lookup y.1=some .cell\/cr.names.lookup y.1=some .free
 nd:N'.Nodup
 len:N'.length=m+N.length
 up:∀ p∈(N'.drop m).zip N,((relab sc cr).names.lookup p.1=none)\/(p.1=p.2/\(relab sc cr).names.lookup p.1≠some .local)
noncomputable def cxC (X:Cx) (scope:Scope) (N':List Str) (C:Addr) (s:Shared) (H:Hp) (ex:List Addr):Cx :=
 { X with N:=N',s₀:=s,H₀:=H,env:=compEnvC scope (clo X.env.cells scope.names []) C X.env,outer:=X.stack,stack:=X.stack,ex:=ex,fn:=λ_=>false,pn:=[],xe:=λ_ _=>False }
def PTs (X:Cx) (bb:List Expr) (t:TT):Prop :=
 ∀ (aa:List (Addr×Obj)) (s:Shared) (U:L2.St) (H:Hp) (Q:Bool->Hp->Prop),Inv X aa U H s->t U H Q →
  wpAny (model X.prog X.w) X.A (forIn bb true λc r=>if r=true then do let ok ← isTrue c X.env (eval c X.env);pure (ForInStep.yield ok) else pure (ForInStep.yield r)) (TP X aa U Q) X.xe s
theorem n1' {X:Cx}:PTs X [] (λ_ H Q=>Q true H):=λaa s U H Q I h=>wpAny_tests_nil ⟨H,I,h⟩
theorem n2' {X:Cx}{c:Expr}{t:TT} (h:PT X c t):PTs X [c] t:=λaa s U H Q I q=>wpAny_tests_one (h aa s U H Q I q)
abbrev calm (P:Program) (w:World) (A:Around){α:Type} (m:Sem α) (Q:α->Shared->Prop) (s:Shared):Prop:=wpAny (model P w) A m Q (λ_ _=>False) s
theorem calm.on {P:Program}{w:World}{A:Around}{α β:Type}{m:Sem α}{f:α->Sem β}{Q:α->Shared->Prop}{K:β->Shared->Prop}{E:Value->Shared->Prop}{s:Shared} (h:calm P w A m Q s) (k:∀ a s',Q a s'->wpAny (model P w) A (f a) K E s'):wpAny (model P w) A (m >>= f) K E s :=
 wpAny_bind (wpAny_mono h k λ_ _ no=>no.elim)
def TurnMeets (P:Program) (w:World) (A:Around) (cu iy:Value) (tg bu:Expr) (bb:List Expr) (env:Env) (again ak:Shared->Prop) (s:Shared):Prop :=
 calm P w A (pyNext cu) (λeF s=>match eF with
  | none=>ak s
  | some v=>calm P w A (letOwnedTupleGo tg cu v) (λ_ s=>calm P w A (assign tg env v) (λ_ s =>
    calm P w A (forIn bb true λc r=>if r=true then do let ok ← isTrue c env (eval c env);pure (ForInStep.yield ok) else pure (ForInStep.yield r)) (λjP s =>
     cond jP (calm P w A (eval bu env) (λx s=>calm P w A (call (.builtin "list.append") [iy,x]) (λ_ s=>again s) s) s) (again s)) s) s) s) s
theorem jB' {P:Program}{w:World}{A:Around}{ak:Result->Shared->Prop}{s:Shared}{bu tg jQ:Expr}{bb:List Expr}{sc:Scope}{aJ:Pos}{cu iy:Value}{env:Env} (W:Nat->Shared->Prop)
  (mW:∀ left s,W left s->TurnMeets P w A cu iy tg bu bb env (λs'=>∃ less,less < left/\W less s') (ak (.ok .next)) s) (left:Nat) (start:W left s) :
  codeAny (model P w) A (.compLoop (.ListComp bu [⟨tg,jQ,bb,0⟩] sc aJ) 0 cu iy env) ak s:=by
 refine codeAny_loop rfl W (λleft s aG=>?_) left start
 have turn:=mW left s aG
 unfold TurnMeets at turn
 refine wpAny_noted ?_
 rw [compTurn_list]
 refine wpAny_bind (wpAny_standAt (turn.on λeF s1 h1=>?_))
 cases eF with
 | none=>exact wpAny_pure h1
 | some v=>exact calm.on h1 λ_ _ h2=>calm.on h2 λ_ _ h3=>calm.on h3 λjP s4 h4=>match jP,h4 with
  | false,h4=>wpAny_pure (And.intro rfl h4)
  | true,h4=>wpAny_bind (calm.on h4 λ_ _ h5=>calm.on h5 λ_ _ h6=>wpAny_pure (wpAny_pure (And.intro rfl h6)))
def Clear (X:Cx) (aa:List (Addr×Obj)) (H:Hp) (C:Addr):Prop:=H C=none/\C≠X.env.locals/\X.s₀.heap.objs.size<=C/\(∀ x c,X.env.cells.lookup x=some c->c≠C)/\∀ p∈X.pn++aa,p.1≠C
theorem Inv.clear {X:Cx}{aa:List (Addr×Obj)}{U:L2.St}{H:Hp}{s:Shared}{h':Heap}{C:Addr} (I:Inv X aa U H s) (c:Clear X aa H C) (hs:Heap.SameBut C s.heap h'):Inv X aa U H { s with heap:=h' } :=
 I.turned (t':=s.toks) (λb o hb e=>(hs.2 b hb).trans e) c.1 c.2.1 (.inr c.2.2.1) c.2.2.2.1 c.2.2.2.2
def CompW (m:Nat) (J:It) (g:TG) (tt:TT) (te:TE) (U:L2.St) (H1:Hp) (p:Addr) (Q:VK):Prop :=
 ∃ W:Nat->Nat->L2.St->Hp->Prop,(∃ n,W 0 n (replicate m none++U) (upd H1 p (.lst [])))/\∀ i n aq H',W i n aq H' →
  (J.stop i H'/\Q (.ref p) H')\/(J.go i H'/\∀ x H2,J.yld i H' x H2->g x aq H2 λaZ H3=>tt aZ H3 λb H4 =>
   if b=true then te aZ H4 λy H5=>∃ am,H5 p=some (.lst am)/\am.length < sizeLine/\∃ n',n' < n/\W (i+1) n' aZ (upd H5 p (.lst (am++[y])))
   else ∃ n',n' < n/\W (i+1) n' aZ H4)
section
variable {X:Cx}{tg bu iter:Expr}{bb:List Expr}{scope:Scope}{pos:Pos}{N':List Str}{m:Nat}{g:TG}{tt:TT}{te:TE}
theorem go' {aa:List (Addr×Obj)}{U:L2.St}{H2:Hp}{s2:Shared}{it:Addr}{fp:List Addr}{tn:Nat->Heap->Prop}{J:It}{Q:VK}{E:Value->Shared->Prop} (S:CompScope X.env.scope scope X.N N' m) (hc:X.calm=true)
  (hg:∀ C s H ex,PG (cxC X scope N' C s H ex) tg g) (ht:∀ C s H ex,PTs (cxC X scope N' C s H ex) bb tt) (he:∀ C s H ex,PE (cxC X scope N' C s H ex) bu te)
  (I2:Inv X aa U H2 s2) (T:Turn X.prog X.w X.K tg J fp it tn) (bB:tn 0 s2.heap) (f2:∀ b∈fp,FpOk X aa H2 b) (hw:∀ p,H2 p=none->CompW m J g tt te U H2 p Q) :
  wpAny (model X.prog X.w) X.A (newList []) (λam s3=>wpAny (model X.prog X.w) X.A (newFunctionEnv scope X.env.globals (clo X.env.cells scope.names []) [] X.env.qual none .none (some X.env)) (λcX s4 =>
   codeAny (model X.prog X.w) X.A (.compStart (.ListComp bu [⟨tg,iter,bb,0⟩] scope pos) 0 (.ref it) am { cX with scope:=relabel scope X.env })
    (λr s'=>match r with | .ok _=>∃ p H' mm,am=.ref p/\s'.heap.Ns cX.locals mm/\Inv X aa U H' s'/\Clear X aa H' cX.locals/\Q (.ref p) H' | .error _=>False) s4) E s3) E s2:=by
 refine wpAny_newObj_type (wpAny_newFunctionEnv S.nocell (by intro y hy;simp at hy) (λh1 je jf=>?_) S.kind)
 dsimp only at je jf ⊢
 -- the new list
 have hp:H2 s2.heap.objs.size=none:=I2.hok.fresh (le_refl _)
 obtain ⟨W,⟨n0,w0⟩,turn⟩:=hw _ hp
 obtain ⟨p,hP⟩:∃ p,p=s2.heap.objs.size:=⟨_,rfl⟩
 obtain ⟨s3,jR⟩:∃ s3:Shared,s3={ s2 with heap:=s2.heap.push { cls:=.type "list", dict:=none,data:=.seq ([]:List Value).toArray } }:=⟨_,rfl⟩
 obtain ⟨C,hC⟩:∃ C,C=s3.heap.objs.size:=⟨_,rfl⟩
 obtain ⟨H3,jS⟩:∃ H3,H3=upd H2 p (.lst []):=⟨_,rfl⟩
 have h3:s3.heap=s2.heap.push { cls:=.type "list", dict:=none,data:=.seq ([]:List Value).toArray }:=by rw [jR]
 have fJ:h1.Ns C (λx=>([]:List (Str×Value)).reverse.lookup x):=by rw [hC,h3];exact je
 have iz:Heap.SameBut C (s3.heap.push { cls:=.type "dict", data:=.dict #[] }) h1:=by rw [hC,h3];exact jf
 rw [← hP] at hp
 have qD:W 0 n0 (replicate m none++U) H3:=by rw [jS,hP];exact w0
 have jT:∀ i n aq H',W i n aq H'->(J.stop i H'/\Q (.ref p) H')\/(J.go i H'/\∀ x H2,J.yld i H' x H2->g x aq H2 λaZ H3=>tt aZ H3 λb H4 =>
   if b=true then te aZ H4 λy H5=>∃ am,H5 p=some (.lst am)/\am.length < sizeLine/\∃ n',n' < n/\W (i+1) n' aZ (upd H5 p (.lst (am++[y])))
   else ∃ n',n' < n/\W (i+1) n' aZ H4):=by rw [hP];exact turn
 have I3:Inv X aa U H3 s3:=by
  rw [jS,jR,hP]
  exact I2.laid (t':=s2.toks) (λb u e=>get?_push_of_some _ e) (le_refl _) ⟨zero_le _,[],0,.nil,get?_push_size _ rfl⟩
 have cD:tn 0 s3.heap:=T.keep _ _ _ bB λb _ o e=>by rw [h3];exact get?_push_of_some _ e
 have f3:∀ b∈fp,FpOk X aa H3 b:=λb hb=>by
  obtain ⟨a0,a1⟩:=f2 b hb
  refine ⟨?_,a1⟩
  obtain ⟨o,e,_⟩:=T.obj _ _ bB b hb
  have ne:b≠p:=λz=>by
   have:=lt_size e
   rw [← hP,z] at this
   exact lt_irrefl _ this
  rw [jS,ae' ne];exact a0
 -- the block's context
 have bq:∀ x c,(clo X.env.cells scope.names []).lookup x=some c->X.env.cells.lookup x=some c:=λx c e=>by
  rcases ei' (mem_of_lookup e) with z | ⟨z1,z2⟩
  ·cases z
  ·obtain ⟨c',bI⟩:=I2.ok.has x (S.free _ z1 rfl)
   rw [bI] at z2
   rw [z2];exact bI
 have fy:Clear X aa H3 C:=by
  refine ⟨?_,?_,?_,λx c e z=>?_,λq hq z=>?_⟩
  ·exact I3.hok.fresh (Nat.le_of_eq hC.symm)
  ·have:=I3.lt;rw [← hC] at this;exact ne_of_gt this
  ·have:=I3.sz;rw [← hC] at this;exact this
  ·obtain ⟨v,q⟩:=I3.cell x c e
   have:=q.lt;rw [← hC,z] at this;exact lt_irrefl _ this
  ·have:=lt_size (I3.pin q hq).1
   rw [← hC,z] at this;exact lt_irrefl _ this
 have old:∀ b o,s3.heap.get? b=some o->h1.get? b=some o:=λb o e=>by
  have ne:b≠C:=λz=>by have:=lt_size e;rw [← hC,z] at this;exact lt_irrefl _ this
  exact (iz.2 b ne).trans (get?_push_of_some _ e)
 have ok:(cxC X scope N' C s3 H3 fp).Ok:=by
  refine ⟨I3.ok.mod,S.kind,I3.ok.glob,I3.ok.blt,Nat.le_of_eq hC.symm,λx y c e1 e2=>I3.ok.inj x y c (bq x c e1) (bq y c e2),λx hx=>?_,λx c z=>(nomatch z),λz=>I3.ok.hd z,I3.ok.frames,.inl rfl,λb hb=>⟨λz=>?_,λx c e=>(f3 b hb).2.2.2.2.1 x c (bq x c e)⟩,I3.bs,le_trans I3.ok.bsz I3.sz,λb o e hb=>?_,λb hb z=>?_,I3.stack,λb hb=>I3.stkFree b hb,λc P h=>I3.base.tbls P _ (I3.ok.tb c P h)⟩
  ·-- has
   have jU:(relab scope X.env.scope).names.lookup x=some .cell\/(relab scope X.env.scope).names.lookup x=some .free:=hx
   have mem:∃ k,(x,k)∈(relab scope X.env.scope).names/\(k=NameKind.cell\/k=NameKind.free):=by
    rcases jU with z | z
    ·exact ⟨_,mem_of_lookup z,.inl rfl⟩
    ·exact ⟨_,mem_of_lookup z,.inr rfl⟩
   obtain ⟨k,hm,hk⟩:=mem
   obtain ⟨⟨n1,k1⟩,gE,e1⟩:=mem_map.mp hm
   refine fQ' (.inl ?_)
   dsimp only at e1
   by_cases hcond:(k1 == NameKind.free&&X.env.scope.kind == ScopeKind.function&&X.env.scope.names.lookup n1 == some NameKind.cell)=true
   ·rw [if_pos hcond] at e1
    cases e1
    have:k1=.free:=by
     simp only [and_eq_true,beq_iff_eq] at hcond
     exact hcond.1.1
    rw [← this];exact gE
   ·rw [if_neg hcond] at e1
    cases e1
    rcases hk with rfl | rfl
    ·exact absurd rfl (S.nocell _ gE)
    ·exact gE
  ·obtain ⟨o,e,_⟩:=T.obj _ _ cD b hb
   have:=lt_size e
   rw [← hC] at this
   have z':b=C:=z
   rw [z'] at this;exact lt_irrefl _ this
  ·obtain ⟨a0,a1,a2,a3,_⟩:=f3 b hb
   rcases a3 with z | z
   ·exact I3.ok.noex b o e z
   ·exact absurd (lt_of_lt_of_le (lt_size e) (le_trans I3.ok.bsz z)) (lt_irrefl _)
  ·have z':=I3.stkSub b z
   obtain ⟨a0,a1,a2,_⟩:=f3 b hb
   rcases mem_cons.mp z' with e | e
   ·exact a1 e
   ·exact a2 e
 -- the block's first state
 have I4:Inv (cxC X scope N' C s3 H3 fp) [] (replicate m none++U) H3 { s3 with heap:=h1,toks:=s3.toks+([]:List (Str×Value)).length }:=by
  obtain ⟨mo,vm,mR⟩:=I3.loc
  refine ⟨ok,rfl,I3.bare,Un.kept old,⟨_,fJ,λi x v e1 e2 e3=>?_⟩,λx c e=>?_,fy.1,λx c e=>I3.freeC x c (bq x c e),λq hq=>absurd (show q∈([]:List (Addr×Obj)) from hq) (by simp),I3.hok.kept old,?_⟩
  ·have hi:m<=i:=by
    by_cases z:m<=i
    ·exact z
    ·rw [getElem?_append_left (by rw [length_replicate];omega),List.getElem?_replicate] at e2
     split at e2<;>cases e2
   rw [getElem?_append_right (by rw [length_replicate];exact hi),length_replicate] at e2
   have eG:N'[i]?=some x:=e1
   have eD:i - m < X.N.length:=by
    have:=(List.getElem?_eq_some_iff.mp eG).1
    rw [S.len] at this
    omega
   have e4:(N'.drop m)[i - m]?=some x:=by rw [getElem?_drop];rw [show m+(i - m)=i from by omega];exact eG
   have e5:X.N[i - m]?=some X.N[i - m]:=getElem?_eq_getElem eD
   have e6:((N'.drop m).zip X.N)[i - m]?=some (x,X.N[i - m]):=by rw [List.getElem?_zip_eq_some];exact ⟨e4,e5⟩
   have mX:Vis (relab scope X.env.scope) x:=e3
   rcases S.up _ (mem_of_getElem? e6) with z | ⟨z1,z2⟩
   ·have z':(relab scope X.env.scope).names.lookup x=none:=z
    rcases mX with y | y | y<;>rw [z'] at y<;>cases y
   ·have qE:x=X.N[i - m]:=z1
    have qF:(relab scope X.env.scope).names.lookup x≠some .local:=z2
    have mY:(relab scope X.env.scope).names.lookup x=some .cell\/(relab scope X.env.scope).names.lookup x=some .free:=by
     rcases mX with y | y | y
     ·exact absurd y qF
     ·exact .inl y
     ·exact .inr y
    obtain ⟨c,cw⟩:=ok.has x mY
    have qG:=bq x c cw
    -- the name in the def's own frame
    have mem:(x,NameKind.free)∈scope.names:=by
     rcases ei' (mem_of_lookup cw) with y | ⟨y,_⟩
     ·cases y
     ·exact y
    have mZ:Vis X.env.scope x:=by
     rcases S.free _ mem rfl with y | y
     ·exact .inr (.inl y)
     ·exact .inr (.inr y)
    obtain ⟨u,ru,l⟩:=mR (i - m) x v (by rw [e5,← qE]) e2 mZ
    refine ⟨u,ru,.inr ⟨mY,c,cw,?_⟩⟩
    rcases l with ⟨k,_⟩ | ⟨_,c',e',z'⟩
    ·have k':X.env.scope.names.lookup x=some .local:=k
     rcases S.free _ mem rfl with y | y<;>(have y':X.env.scope.names.lookup x=_:=y;rw [k'] at y';cases y')
    ·rw [qG] at e';cases e'
     exact z'.keeps old
  ·obtain ⟨v,q⟩:=I3.cell x c (bq x c e)
   exact ⟨v,q.keeps old⟩
  ·show (replicate m none++U).length=N'.length
   rw [length_append,length_replicate,S.len,I3.len]
 have cM:∀ {H':Hp},(∀ b∈fp,H' b=none)->∀ b∈fp,FpOk (cxC X scope N' C s3 H3 fp) [] H' b:=λ{H'} hn b hb=>by
  refine ⟨hn b hb,(ok.exf b hb).1,ok.exfs b hb,.inl hb,(ok.exf b hb).2,λq hq=>absurd (show q∈([]:List (Addr×Obj)) from hq) (by simp)⟩
 -- what stands behind the block
 have cV:∀ {aq:L2.St}{H':Hp}{s':Shared},Inv (cxC X scope N' C s3 H3 fp) [] aq H' s'->Inv X aa U H' s'/\Clear X aa H' C:=λ{aq H' s'} J'=>by
  refine ⟨I3.call' J'.os J'.base J'.hok J'.bare λb hb=>?_,J'.free,fy.2⟩
  obtain ⟨a0,a1,a2,a3,a4,a5⟩:=f3 b hb
  exact ⟨a3,a1,a4,a5⟩
 have bX:∀ s4:Shared,s4={ s3 with heap:=h1,toks:=s3.toks+([]:List (Str×Value)).length } →
   codeAny (model X.prog X.w) X.A (.compLoop (.ListComp bu [⟨tg,iter,bb,0⟩] scope pos) 0 (.ref it) (.ref p) (compEnvC scope (clo X.env.cells scope.names []) C X.env))
    (λr s'=>match r with | .ok _=>∃ p' H' mm,Value.ref p=.ref p'/\s'.heap.Ns C mm/\Inv X aa U H' s'/\Clear X aa H' C/\Q (.ref p') H' | .error _=>False) s4:=by
  rintro s4 rfl
  refine jB' (λn s'=>∃ i aq H',Inv (cxC X scope N' C s3 H3 fp) [] aq H' s'/\tn i s'.heap/\(∀ b∈fp,H' b=none)/\W i n aq H') ?_ n0 ⟨0,_,_,I4,T.keep _ _ _ cD λb _ o e=>old b o e,λb hb=>(f3 b hb).1,qD⟩
  rintro n s5 ⟨i,eB,H5,I5,fF,ik,w5⟩
  show TurnMeets _ _ _ _ _ _ _ _ _ _ _ _
  unfold TurnMeets
  rcases jT i n eB H5 w5 with ⟨stop,qn⟩ | ⟨go,step⟩
  ·refine wpAny_mono (T.done (cxC X scope N' C s3 H3 fp) rfl rfl rfl hc i [] s5 eB H5 (λ_ _=>False) I5 (cM ik) fF stop) (λr s6 ⟨hr,I6⟩=>?_) λ_ _ z=>z
   subst hr
   obtain ⟨mm,qH,_⟩:=I6.loc
   obtain ⟨b1,b2⟩:=cV I6
   exact ⟨p,H5,mm,rfl,qH,b1,b2,qn⟩
  ·refine wpAny_mono (T.item (cxC X scope N' C s3 H3 fp) rfl rfl rfl hc i [] s5 eB H5 (λ_ _=>False) I5 (cM ik) fF go) (λr s6 ⟨u,hr,h6⟩=>?_) λ_ _ z=>z
   subst hr
   refine wpAny_mono h6 (λ_ s7 ⟨x,H7,I7,r7,y7,jV,qI⟩=>?_) λ_ _ z=>z
   have qJ:=I7.pinned (cM qI) (T.obj _ _ jV)
   refine wpAny_mono (hg C s3 H3 fp _ s7 eB H7 x u _ qJ r7 (step x H7 y7)) (λ_ s8 ⟨gF,H8,I8,q8⟩=>?_) λ_ _ z=>z
   refine wpAny_mono (ht C s3 H3 fp _ s8 gF H8 _ I8 q8) (λok s9 ⟨H9,I9,q9⟩=>?_) λ_ _ z=>z
   have again:∀ {m8:L2.St}{Ha:Hp}{sa:Shared},Inv (cxC X scope N' C s3 H3 fp) ([]++pinsAt fp s7.heap) m8 Ha sa->tn (i+1) sa.heap/\(∀ b∈fp,Ha b=none):=λ{m8 Ha sa} Ia=>by
    refine ⟨T.keep _ _ _ jV λb hb o e=>(Ia.pin (b,o) (mem_append_right _ (mem_append_right _ (cn' hb e)))).1,λb hb=>?_⟩
    obtain ⟨o,e,d⟩:=T.obj _ _ jV b hb
    exact (Ia.pin (b,o) (mem_append_right _ (mem_append_right _ (cn' hb e)))).2.1
   cases ok with
   | false =>
    rw [if_neg Bool.false_ne_true] at q9
    obtain ⟨n',ef,w9⟩:=q9
    obtain ⟨a1,a2⟩:=again I9
    exact ⟨n',ef,i+1,gF,H9,I9.unpinned,a1,a2,w9⟩
   | true =>
    rw [if_pos rfl] at q9
    refine wpAny_mono (he C s3 H3 fp _ s9 gF H9 _ I9 q9) (λxv iA ⟨y,m9,qK,qL,am,nc,hl,n',ef,qM⟩=>?_) λ_ _ z=>z
    refine wpAny_mono (gg' (X:=cxC X scope N' C s3 H3 fp) _ iA gF m9 (.ref p) [y] (.ref p) [xv] (λ_ H'=>H'=upd m9 p (.lst (am++[y]))) qK rfl (.cons qL .nil) ⟨p,am,y,rfl,rfl,nc,hl,rfl⟩) (λ_ vn ⟨vo,vp,ng,_,qN⟩=>?_) λ_ _ z=>z
    subst qN
    obtain ⟨a1,a2⟩:=again ng
    exact ⟨n',ef,i+1,gF,_,ng.unpinned,a1,a2,qM⟩
 subst hC
 subst jR
 subst hP
 refine codeAny_compStart_list ?_ (T.self X.A 0 _ _ _ (T.keep _ _ _ cD λb _ o e=>old b o e) ?_)
 ·exact bX _ rfl
 ·exact bX _ rfl
end
section
variable {X:Cx}{tg bu iter:Expr}{bb:List Expr}{scope:Scope}{pos:Pos}{N':List Str}{m:Nat}{g:TG}{tt:TT}{te:TE}{wi:TI}
noncomputable def tComp (m:Nat) (wi:TI) (g:TG) (tt:TT) (te:TE):TE:=λU H Q=>wi U H λJ H1=>∀ p,H1 p=none->CompW m J g tt te U H1 p Q
theorem n3' (S:CompScope X.env.scope scope X.N N' m) (hc:X.calm=true) (hi:PI X tg iter wi)
  (hg:∀ C s H ex,PG (cxC X scope N' C s H ex) tg g) (ht:∀ C s H ex,PTs (cxC X scope N' C s H ex) bb tt) (he:∀ C s H ex,PE (cxC X scope N' C s H ex) bu te)
  (hs:∀ x,foldedSetIterable iter X.env x=pure x:=by intro _;rfl):PE X (.ListComp bu [⟨tg,iter,bb,0⟩] scope pos) (tComp m wi g tt te):=by
 intro aa s U H Q I h
 rw [eval_ListComp]
 refine wpAny_comprehension_free (use:=none) rfl hs (db' λn hn=>I.ok.has n (S.free _ hn rfl)) S.kind S.locals (thn (hi aa s U H _ I h) λxv s1 h1=>thn h1 λii s2 h2=>?_)
 obtain ⟨it,fp,tn,J,H2,e,I2,T,bB,f2,hw⟩:=h2
 subst e
 refine thn (go' (pos:=pos) (iter:=iter) S hc hg ht he I2 T bB f2 hw) λam s3 h3=>thn h3 λcX s4 h4=>codeAny_mono h4 λr s5 h5=>?_
 cases r with
 | error x=>exact h5.elim
 | ok fl =>
  obtain ⟨p,H5,mm,rfl,hn,I5,cl,q⟩:=h5
  exact ⟨mm,hn,λh' fK=>⟨.ref p,H5,Inv.clear I5 cl fK,rfl,q⟩⟩
theorem jC' {i:Nat}{y:Str}{py dS:Pos} (S:CompScope X.env.scope scope X.N N' m) (hc:X.calm=true) (hN:X.N.Nodup) (bP:X.N[i]?=some y) (hy:X.env.scope.names.lookup y=some .local) (hi:PI X tg iter wi)
  (hg:∀ C s H ex,PG (cxC X scope N' C s H ex) tg g) (ht:∀ C s H ex,PTs (cxC X scope N' C s H ex) bb tt) (he:∀ C s H ex,PE (cxC X scope N' C s H ex) bu te)
  (jW:swapsWith (.ListComp bu [⟨tg,iter,bb,0⟩] scope pos) (some (.Name y py)) dS.line X.env=pure true)
  (hs:∀ x,foldedSetIterable iter X.env x=pure x:=by intro _;rfl):PS X (.Assign [.Name y py] (.ListComp bu [⟨tg,iter,bb,0⟩] scope pos) dS) (tAsg (tComp m wi g tt te) (gName i)):=by
 intro aa s U H D I h
 rw [exec_Assign_Name_used _ _ _ _ jW]
 refine wpAny_bind (wpAny_standAt (wpAny_bind ?_))
 show wpAny _ X.A (do let _ ← comprehension (.ListComp bu [⟨tg,iter,bb,0⟩] scope pos) scope X.env _ (newList []) false (eval iter X.env) (some (assign (.Name y py) X.env))) _ _ s
 refine wpAny_bind (thn (wpAny_comprehension_free (use:=some (assign (.Name y py) X.env)) (Q:=λ_ s'=>SP X aa D .next s') rfl hs (db' λn hn=>I.ok.has n (S.free _ hn rfl)) S.kind S.locals
  (thn (hi aa s U H _ I h) λxv s1 h1=>thn h1 λii s2 h2=>?_)) λ_ s' hq=>wpAny_pure (wpAny_pure hq))
 obtain ⟨it,fp,tn,J,H2,e,I2,T,bB,f2,hw⟩:=h2
 subst e
 refine thn (go' (pos:=pos) (iter:=iter) S hc hg ht he I2 T bB f2 hw) λam s3 h3=>thn h3 λcX s4 h4=>codeAny_mono h4 λr s5 h5=>?_
 cases r with
 | error x=>exact h5.elim
 | ok fl =>
  obtain ⟨p,H5,mm,rfl,hn,I5,cl,q⟩:=h5
  show wpAny _ X.A (assign (.Name y py) X.env (.ref p)) _ _ s5
  refine wpAny_assign_Name (gb' (v:=.ref p) I5 hN bP (.inl hy) rfl (λs6 I6 ⟨a,qO,ha⟩=>?_) (.inr hy))
  have fE:cX.locals≠a:=by
   rcases ha with rfl | ha
   ·exact cl.2.1
   ·exact λz=>cl.2.2.2.1 y a ha z.symm
  refine ⟨mm,hn.sameBut qO fE,λh' fK=>?_⟩
  have qP:Clear X aa H5 cX.locals:=cl
  exact ⟨_,H5,Inv.clear I6 qP fK,q⟩
end
noncomputable def inC {α:Type} (m:Nat) (g:M α):M α:=λZ=>match g (replicate m none++Z) with
 | some (a,aj)=>some (a,aj.drop m)
 | none=>none
noncomputable def compM (ay:D->M Unit) (ts:M Bool) (el:M D):List D->M (List D)
 | []=>ret []
 | d::ds=>bnd (ay d) λ_=>bnd ts λb=>if b then bnd el λx=>bnd (compM ay ts el ds) λr=>ret (x::r) else compM ay ts el ds
noncomputable def compO (m:Nat) (it:M (List D)) (ay:D->M Unit) (ts:M Bool) (el:M D):M (List D):=bnd it λds=>if ds.length<=lim then inC m (compM ay ts el ds) else λ_=>none
noncomputable def bUp (m:Nat) (B:BB):BB:=λi=>if i < m then none else B (i - m)
theorem n4' {α:Type}{m:Nat}{g:M α}{Z aj:Gm}{a:α} (h:inC m g Z=some (a,aj)):∃ ae,g (replicate m none++Z)=some (a,ae)/\aj=ae.drop m:=by
 unfold inC at h
 cases e:g (replicate m none++Z) with
 | none=>rw [e] at h;cases h
 | some q=>obtain ⟨b,ae⟩:=q;rw [e] at h;cases h;exact ⟨ae,rfl,rfl⟩
section
variable {K:PySem.W.Frag}{B:BB}{G I H:Hp}{U aq:L2.St}{Z aj:Gm}{m:Nat}
theorem dc' {α:Type}{l:List (Option α)}{m i:Nat}{a:α} (h:(replicate m (none:Option α)++l)[i]?=some (some a)):m<=i/\l[i - m]?=some (some a):=by
 by_cases hi:m<=i
 ·rw [getElem?_append_right (by rw [length_replicate];exact hi),length_replicate] at h
  exact ⟨hi,h⟩
 ·rw [getElem?_append_left (by rw [length_replicate];omega),List.getElem?_replicate] at h
  split at h<;>cases h
theorem nz' {α:Type}{l:List (Option α)}{m i:Nat} (hi:m<=i):(replicate m (none:Option α)++l)[i]?=l[i - m]?:=by
 rw [getElem?_append_right (by rw [length_replicate];exact hi),length_replicate]
theorem Rep.up (r:Rep K B G I H U Z) (m:Nat):Rep K (bUp m B) G I H (replicate m none++U) (replicate m none++Z) where
 iH:=r.iH
 gH:=r.gH
 len:=by rw [length_append,length_append,length_replicate,length_replicate,r.len]
 slot:=λi q e=>by
  obtain ⟨hi,e1⟩:=dc' e
  obtain ⟨v,e2,e3⟩:=r.slot _ q e1
  exact ⟨v,by rw [nz' hi];exact e2,e3⟩
 dist:=λi j q q' v e e' mm jX s1 s2=>by
  obtain ⟨hi,e1⟩:=dc' e
  obtain ⟨hj,e2⟩:=dc' e'
  have:=r.dist _ _ q q' v e1 e2 mm jX (dc' s1).2 (dc' s2).2
  omega
 bor:=λi ds e=>by
  obtain ⟨hi,e1⟩:=dc' e
  rw [nz' hi,r.bor _ ds e1]
  unfold bUp
  rw [if_neg (by omega)]
theorem Rep.down (r:Rep K (bUp m B) G I H aq aj) (hs:aq.drop m=U):Rep K B G I H U (aj.drop m):=by
 subst hs
 exact {
  iH:=r.iH,gH:=r.gH
  len:=by rw [length_drop,length_drop,r.len]
  slot:=λi q e=>by
   rw [getElem?_drop] at e
   obtain ⟨v,e2,e3⟩:=r.slot _ q e
   exact ⟨v,by rw [getElem?_drop];exact e2,e3⟩
  dist:=λi j q q' v e e' mm jX s1 s2=>by
   rw [getElem?_drop] at e e' s1 s2
   have:=r.dist _ _ q q' v e e' mm jX s1 s2
   omega
  bor:=λi ds e=>by
   rw [getElem?_drop] at e ⊢
   rw [r.bor _ ds e]
   unfold bUp
   rw [if_neg (by omega)]
   congr 1
   omega }
theorem Rep.guard (r:Rep K B G I H U Z){p:Addr} (h:H p=none) (o:HO):Rep K B (upd G p o) I (upd H p o) U Z where
 iH:=r.iH.trans (aA' h o)
 gH:=gj' r.gH o
 len:=r.len
 slot:=λi q e=>by
  obtain ⟨v,e1,e2⟩:=r.slot i q e
  refine ⟨v,e1,?_⟩
  have mt:∀ ds,Mt K G I H ds v->Mt K (upd G p o) I (upd H p o) ds v:=λds hh=>by
   obtain ⟨p2,xs,h1,h2,h3,h4,h5⟩:=hh
   have ne:p2≠p:=aD' h2 h
   exact ⟨p2,xs,h1,by rw [ae' ne];exact h2,h3,by rw [ae' ne];exact h4,h5⟩
  cases q with
  | val d=>exact e2
  | dic ds =>
   obtain ⟨p2,xs,h1,h2,h3,h4,h5⟩:=e2
   have ne:p2≠p:=aD' h2 h
   exact ⟨p2,xs,h1,by rw [ae' ne];exact h2,h3,by rw [ae' ne];exact h4,h5⟩
  | own ds=>exact mt ds e2
  | bor ds=>exact mt ds e2
  | fro ds =>
   obtain ⟨p2,xs,f1,f2,f3,f4⟩:=e2
   have ne:p2≠p:=aD' (r.iH _ _ f2) h
   exact ⟨p2,xs,f1,f2,by rw [ae' ne];exact f3,f4⟩
 dist:=r.dist
 bor:=r.bor
theorem Rep.reguard {p:Addr}{o o':HO} (r:Rep K B (upd G p o) I H U Z) (hi:I p=none):Rep K B (upd G p o') I (upd H p o') U Z where
 iH:=λb u q=>by
  have ne:b≠p:=λz=>by subst z;rw [hi] at q;cases q
  rw [ae' ne];exact r.iH b u q
 gH:=λb u q=>by
  by_cases e:b=p
  ·subst e;rw [ag'] at q ⊢;exact q
  ·rw [ae' e] at q ⊢;exact r.gH b u (by rw [ae' e];exact q)
 len:=r.len
 slot:=λi q e=>by
  obtain ⟨v,e1,e2⟩:=r.slot i q e
  refine ⟨v,e1,?_⟩
  have mt:∀ ds,Mt K (upd G p o) I H ds v->Mt K (upd G p o') I (upd H p o') ds v:=λds hh=>by
   obtain ⟨p2,xs,h1,h2,h3,h4,h5⟩:=hh
   have ne:p2≠p:=λz=>by subst z;rw [ag'] at h4;cases h4
   rw [ae' ne] at h4
   exact ⟨p2,xs,h1,by rw [ae' ne];exact h2,h3,by rw [ae' ne];exact h4,h5⟩
  cases q with
  | val d=>exact e2
  | dic ds =>
   obtain ⟨p2,xs,h1,h2,h3,h4,h5⟩:=e2
   have ne:p2≠p:=λz=>by subst z;rw [ag'] at h4;cases h4
   rw [ae' ne] at h4
   exact ⟨p2,xs,h1,by rw [ae' ne];exact h2,h3,by rw [ae' ne];exact h4,h5⟩
  | own ds=>exact mt ds e2
  | bor ds=>exact mt ds e2
  | fro ds =>
   obtain ⟨p2,xs,f1,f2,f3,f4⟩:=e2
   have ne:p2≠p:=λz=>by rw [z,hi] at f2;cases f2
   rw [ae' ne] at f3
   exact ⟨p2,xs,f1,f2,by rw [ae' ne];exact f3,f4⟩
 dist:=r.dist
 bor:=r.bor
theorem Rep.unguard {p:Addr}{o:HO} (r:Rep K B (upd G p o) I H U Z) (hg:G p=none):Rep K B G I H U Z/\Apart U Z p:=by
 have ap:Apart U Z p:=λj q e mm s=>by
  obtain ⟨v,e1,e2⟩:=r.slot j q e
  obtain ⟨p2,xs,h1,h2,h3,h4⟩:=e2.mt mm
  rw [e1,h1] at s
  cases s
  rw [ag'] at h4;cases h4
 refine ⟨{ iH:=r.iH,gH:=(aA' hg o).trans r.gH,len:=r.len,slot:=λi q e=>?_,dist:=r.dist,bor:=r.bor },ap⟩
 obtain ⟨v,e1,e2⟩:=r.slot i q e
 refine ⟨v,e1,?_⟩
 have mt:∀ ds,Mt K (upd G p o) I H ds v->Mt K G I H ds v:=λds hh=>by
  obtain ⟨p2,xs,h1,h2,h3,h4,h5⟩:=hh
  have ne:p2≠p:=λz=>by subst z;rw [ag'] at h4;cases h4
  rw [ae' ne] at h4
  exact ⟨p2,xs,h1,h2,h3,h4,h5⟩
 cases q with
 | val d=>exact e2
 | dic ds =>
  obtain ⟨p2,xs,h1,h2,h3,h4,h5⟩:=e2
  have ne:p2≠p:=λz=>by subst z;rw [ag'] at h4;cases h4
  rw [ae' ne] at h4
  exact ⟨p2,xs,h1,h2,h3,h4,h5⟩
 | own ds=>exact mt ds e2
 | bor ds=>exact mt ds e2
 | fro ds =>
  obtain ⟨p2,xs,f1,f2,f3,f4⟩:=e2
  have ne:p2≠p:=λz=>by rw [z,ag'] at f3;cases f3
  rw [ae' ne] at f3
  exact ⟨p2,xs,f1,f2,f3,f4⟩
theorem Grow.unguard {I':Hp}{p:Addr}{o:HO} (g:Grow (upd G p o) I I'):Grow G I I':=⟨g.up,λb u q=>by
 rcases g.new b u q with z | z
 ·exact .inl z
 ·by_cases e:b=p
  ·subst e;rw [ag'] at z;cases z
  ·rw [ae' e] at z;exact .inr z⟩
theorem Grow.keepsOut {I':Hp}{p:Addr}{o:HO} (g:Grow (upd G p o) I I') (hi:I p=none):I' p=none:=by
 cases e:I' p with
 | none=>rfl
 | some u =>
  rcases g.new p u e with z | z
  ·rw [hi] at z;cases z
  ·rw [ag'] at z;cases z
end
section
variable {X:Cx}{B:BB}{tg bu iter:Expr}{bb:List Expr}{scope:Scope}{pos:Pos}{N':List Str}{m:Nat}{it:M (List D)}{ay:D->M Unit}{ts:M Bool}{el:M D}
def TDs (X:Cx) (B:BB) (bb:List Expr) (g:M Bool):Prop:=PTs X bb (tTD X.K B g)
theorem bF':TDs X B [] (ret true):=λaa s U H Q I h=>n1' aa s U H Q I (by
 obtain ⟨G,I,Z,b,aj,r,e1,k⟩:=h
 cases e1
 exact k _ _ r (Grow.refl _ _))
theorem fR' {c:Expr}{g:M Bool} (h:TD X B c g):TDs X B [c] g:=n2' h
theorem kC' {K:PySem.W.Frag}:∀ U H Q,tO K B (compO m it ay ts el) U H Q->tComp m (tI K B it) (tGD K (bUp m B) m ay) (tTD K (bUp m B) ts) (tD K (bUp m B) el) U H Q:=λU H Q q=>by
 obtain ⟨G,I,Z,rs,aj,r,e1,k⟩:=q
 obtain ⟨ds,ae,e2,e3⟩:=ac' e1
 by_cases fz:ds.length<=lim
 case neg=>rw [if_neg fz] at e3;cases e3
 rw [if_pos fz] at e3
 obtain ⟨cE,e4,rfl⟩:=n4' e3
 refine ⟨G,I,Z,ds,ae,r,e2,λJ H1 I1 r1 g1 y p hp=>?_⟩
 have gp:=r1.gFree hp
 have ip:=r1.iFree hp
 refine ⟨λi n aq H'=>∃ am ad I2 ao aB,Rep K (bUp m B) (upd G p (.lst am)) I2 H' aq ao/\Grow G I1 I2/\I2 p=none/\IsA K I2 ad am/\aq.drop m=U/\compM ay ts el (ds.drop i) ao=some (aB,cE)/\ad++aB=rs/\ad.length<=i/\i<=ds.length/\n=ds.length - i,
  ⟨ds.length,[],[],I1,_,rs,(r1.up m).guard hp _,Grow.refl _ _,ip,IsA.nil,by rw [List.drop_append_of_le_length (by simp),drop_of_length_le (by simp),nil_append],by simpa using e4,rfl,zero_le _,zero_le _,rfl⟩,?_⟩
 rintro i n aZ H2 ⟨am,ad,I2,ao,aB,r2,g2,jY,ha,hs,e5,rfl,vq,hi,rfl⟩
 obtain ⟨yg,ys⟩:=y i H2 (g2.up.trans r2.iH)
 by_cases bt:i < ds.length
 ·have hd:ds.drop i=ds[i]::ds.drop (i+1):=drop_eq_getElem_cons bt
  obtain ⟨go,yld⟩:=yg ds[i] (getElem?_eq_getElem bt)
  rw [hd,compM] at e5
  obtain ⟨u,aQ,e6,e7⟩:=ac' e5
  obtain ⟨b,aY,e8,e9⟩:=ac' e7
  refine .inr ⟨go,λx H3 hy=>?_⟩
  have main:∀ I3,Rep K (bUp m B) (upd G p (.lst am)) I3 H3 aZ ao->Grow (upd G p (.lst am)) I2 I3->Is K I3 ds[i] x->tGD K (bUp m B) m ay x aZ H3 λaZ H3=>tTD K (bUp m B) ts aZ H3 λb H4 =>
    if b=true then tD K (bUp m B) el aZ H4 λy H5=>∃ am,H5 p=some (.lst am)/\am.length < sizeLine/\∃ n',n' < ds.length - i/\∃ acc_1 ad_1 I2 ao rest_1,Rep K (bUp m B) (upd G p (.lst acc_1)) I2 (upd H5 p (.lst (am++[y]))) aZ ao/\Grow G I1 I2/\I2 p=none/\IsA K I2 ad_1 acc_1/\aZ.drop m=U/\compM ay ts el (ds.drop (i+1)) ao=some (rest_1,cE)/\ad_1++rest_1=ad++aB/\ad_1.length<=i+1/\i+1<=ds.length/\n'=ds.length - (i+1)
    else ∃ n',n' < ds.length - i/\∃ am ad_1 I2 ao rest_1,Rep K (bUp m B) (upd G p (.lst am)) I2 H4 aZ ao/\Grow G I1 I2/\I2 p=none/\IsA K I2 ad_1 am/\aZ.drop m=U/\compM ay ts el (ds.drop (i+1)) ao=some (rest_1,cE)/\ad_1++rest_1=ad++aB/\ad_1.length<=i+1/\i+1<=ds.length/\n'=ds.length - (i+1):=by
   intro I3 r3 g3 hx
   refine ⟨_,I3,ao,ds[i],aQ,r3,hx,e6,λmU H4 I4 r4 g4 qQ=>⟨_,I4,aQ,b,aY,r4,e8,λH5 I5 r5 g5=>?_⟩⟩
   have iB:=g3.trans (g4.trans g5)
   have fK:mU.drop m=U:=qQ.trans hs
   cases b with
   | false =>
    refine iteF ⟨ds.length - (i+1),by omega,am,ad,I5,aY,aB,r5,g2.trans iB.unguard,iB.keepsOut jY,ha.mono iB.up,fK,by simpa using e9,rfl,by omega,bt,rfl⟩
   | true =>
    simp only [if_true] at e9
    obtain ⟨xd,fL,f1,f2⟩:=ac' e9
    obtain ⟨rr,fM,f3,f4⟩:=ac' f2
    cases f4
    refine iteT ⟨_,I5,aY,xd,fL,r5,f1,λyv H6 I6 r6 g6 qR=>⟨am,r6.gH _ _ ag',?_,ds.length - (i+1),by omega,am++[yv],ad++[xd],I6,fL,rr,?_⟩⟩
    ·rw [← ha.length]
     have h1:lim < sizeLine:=by rw [sizeLine_eq];decide
     omega
    ·have jZ:=iB.trans g6
     have ni:=jZ.keepsOut jY
     exact ⟨r6.reguard ni,g2.trans jZ.unguard,ni,IsA.append (ha.mono jZ.up) (IsA.cons qR IsA.nil),fK,f3,by rw [append_assoc];rfl,by rw [length_append,List.length_singleton];omega,bt,rfl⟩
  rcases yld x H3 hy with ⟨rfl,hx⟩ | ⟨p2,es,xs,dI,rfl,eC,rfl,hx⟩
  ·exact main I2 r2 (Grow.refl _ _) (hx.mono g2.up)
  ·refine main _ (r2.alloc eC _) (r2.growAlloc eC _) ?_
   rw [dI]
   exact Is.tup (SqT.of ag') ((hx.mono g2.up).mono (aA' (r2.iFree eC) _))
 ·have eD:i=ds.length:=by omega
  subst eD
  rw [drop_length] at e5
  cases e5
  rw [append_nil] at k
  refine .inl ⟨ys (le_refl _),?_⟩
  have rd:=Rep.down r2 hs
  obtain ⟨ru,ap⟩:=rd.unguard gp
  exact k p am H2 I2 ru (g1.trans g2) (r2.gH _ _ ag') jY gp ap ha
theorem bG' (S:CompScope X.env.scope scope X.N N' m) (hc:X.calm=true) (hi:ITD X B tg iter it)
  (hg:∀ C s H ex,GD (cxC X scope N' C s H ex) (bUp m B) m tg ay) (ht:∀ C s H ex,TDs (cxC X scope N' C s H ex) (bUp m B) bb ts) (he:∀ C s H ex,ED (cxC X scope N' C s H ex) (bUp m B) bu el)
  (hs:∀ x,foldedSetIterable iter X.env x=pure x:=by intro _;rfl):EO X B (.ListComp bu [⟨tg,iter,bb,0⟩] scope pos) (compO m it ay ts el):=PE.imp (n3' (g:=tGD X.K (bUp m B) m ay) (tt:=tTD X.K (bUp m B) ts) (te:=tD X.K (bUp m B) el) S hc hi hg ht he hs) kC'
theorem c1' {i:Nat}{y:Str}{py dS:Pos} (S:CompScope X.env.scope scope X.N N' m) (hc:X.calm=true) (hN:X.N.Nodup) (hi:ITD X B tg iter it)
  (hg:∀ C s H ex,GD (cxC X scope N' C s H ex) (bUp m B) m tg ay) (ht:∀ C s H ex,TDs (cxC X scope N' C s H ex) (bUp m B) bb ts) (he:∀ C s H ex,ED (cxC X scope N' C s H ex) (bUp m B) bu el)
  (bP:X.N[i]?=some y:=by rfl) (hy:X.env.scope.names.lookup y=some .local:=by rfl) (jW:swapsWith (.ListComp bu [⟨tg,iter,bb,0⟩] scope pos) (some (.Name y py)) dS.line X.env=pure true:=by rfl)
  (hs:∀ x,foldedSetIterable iter X.env x=pure x:=by intro _;rfl):SD X B (.Assign [.Name y py] (.ListComp bu [⟨tg,iter,bb,0⟩] scope pos) dS) (setV i (frz (compO m it ay ts el))):=PS.imp (jC' (g:=tGD X.K (bUp m B) m ay) (tt:=tTD X.K (bUp m B) ts) (te:=tD X.K (bUp m B) el) S hc hN bP hy hi hg ht he jW hs) λE U H q=>by
 obtain ⟨G,I,Z,f,aj,r,e1,k⟩:=q
 obtain ⟨d1,ae,e2,e3⟩:=ac' e1
 obtain ⟨d2,ao,e4,e5⟩:=ac' e3
 cases e5
 obtain ⟨hl,rfl⟩:=cD' e4
 obtain ⟨ds,aQ,e6,e7⟩:=ac' e2
 cases e7
 refine kC' U H _ ⟨G,I,Z,ds,_,r,e6,λp xs H1 I1 r1 g1 h1 h2 h3 h4 h5=>?_⟩
 refine k _ H1 _ ((r1.freeze h1 h2 h4).store (by rw [r1.len];exact hl) (Is.lst (RdK.of ag') (h5.mono (aA' h2 _))) (λm=>nomatch m) (λ_ z=>nomatch z)) (g1.trans (growFreeze h2 h3))
end
mutual
noncomputable def deq:D->D->Bool
 | .non,.non=>true
 | .bl a,.bl b=>a == b
 | .bl a,.int j=>(if a then (1:Int) else 0) == j
 | .int i,.bl b=>i == (if b then (1:Int) else 0)
 | .int i,.int j=>i == j
 | .str x,.str y=>x == y
 | .tup xs,.tup ys=>deqA xs ys
 | .lst xs,.lst ys=>deqA xs ys
 | _,_=>false
noncomputable def deqA:List D->List D->Bool
 | [],[]=>true
 | x::xs,y::ys=>deq x y&&deqA xs ys
 | _,_=>false
end
mutual
noncomputable def dep:D->Nat
 | .tup xs=>depA xs+1
 | .lst xs=>depA xs+1
 | _=>0
noncomputable def depA:List D->Nat
 | []=>0
 | x::xs=>max (dep x) (depA xs)
end
mutual
theorem mg':∀ a:D,deq a a=true
 | .non=>by rw [deq]
 | .bl b=>by rw [deq];exact beq_self_eq_true b
 | .int b=>by rw [deq];exact beq_self_eq_true b
 | .str b=>by rw [deq];exact beq_self_eq_true b
 | .tup xs=>by rw [deq];exact ch' xs
 | .lst xs=>by rw [deq];exact ch' xs
theorem ch':∀ a:List D,deqA a a=true
 | []=>by rw [deqA]
 | x::xs=>by rw [deqA,mg' x,ch' xs];rfl
end
theorem b4':∀ {xs:List D}{x:D},x∈xs->dep x<=depA xs
 | y::ys,x,h=>by
  rw [depA]
  rcases mem_cons.mp h with rfl | h
  ·omega
  ·have:=b4' h;omega
theorem cp':∀ (xs ys:List D),((range (min xs.length ys.length)).all (λj=>deq (xs.getD j .non) (ys.getD j .non))&&(xs.length == ys.length))=deqA xs ys
 | [],[]=>by rw [deqA];rfl
 | [],y::ys=>by rw [deqA]<;>simp
 | x::xs,[]=>by rw [deqA]<;>simp
 | x::xs,y::ys=>by
  have ih:=cp' xs ys
  have e:min (x::xs).length (y::ys).length=min xs.length ys.length+1:=by simp only [length_cons];omega
  rw [deqA,← ih,e,List.range_succ_eq_map,all_cons,List.all_map]
  have e2:((x::xs).length == (y::ys).length)=(xs.length == ys.length):=by
   simp only [length_cons]
   cases h:xs.length == ys.length
   ·simp at h ⊢;omega
   ·simp at h ⊢;omega
  rw [e2,Bool.and_assoc]
  rfl
theorem mh' {xs ys:List D} (h:xs.length≠ys.length):deqA xs ys=false:=by
 rw [← cp']
 have:(xs.length == ys.length)=false:=by simpa using h
 rw [this,Bool.and_false]
section
variable {X:Cx}{aa:List (Addr×Obj)}{U:L2.St}{H:Hp}{s:Shared}
theorem IsA.getU {K:PySem.W.Frag}{I:Hp}{ds:List D}{xs:List V}{us:List Value} (h:IsA K I ds xs) (r:Vals xs us){j:Nat} (hj:j < us.toArray.size):∃ v,RelV v us.toArray[j]/\Is K I (ds.getD j .non) v:=by
 have h1:=h.length
 have h2:=r.length
 have j0:j < us.length:=by simpa using hj
 have hd:ds[j]?=some ds[j]:=getElem?_eq_getElem (by omega)
 obtain ⟨v,e1,e2⟩:=h.get hd
 obtain ⟨u,e3,e4⟩:=r.get e1
 have e5:us.toArray[j]=u:=by
  rw [getElem?_eq_getElem j0] at e3
  simpa using e3
 refine ⟨v,by rw [e5];exact e4,?_⟩
 rw [getD_eq_getElem?_getD,hd]
 exact e2
theorem rdL {a:Addr}{xs:List V}{K:PySem.W.Frag} (h:RdK K H a xs):SqL K H a xs:=h.sq
mutual
theorem fl' (I:Inv X aa U H s):∀ {a b:D}{v:V},Is X.K H a v->Is X.K H b v->a=b
 | .non,b,v,h,h'=>by
  have e:=cf' h;subst e
  cases b<;>first | rfl | (rw [Is] at h';obtain ⟨_,_,e,_⟩:=h';cases e) | (rw [Is] at h';cases h')
 | .bl x,b,v,h,h'=>by
  have e:=a3' h;subst e
  cases b<;>first | (rw [Is] at h';obtain ⟨_,_,e,_⟩:=h';cases e) | (rw [Is] at h';cases h';rfl) | (rw [Is] at h';cases h')
 | .int x,b,v,h,h'=>by
  have e:=al' h;subst e
  cases b<;>first | (rw [Is] at h';obtain ⟨_,_,e,_⟩:=h';cases e) | (rw [Is] at h';cases h';rfl) | (rw [Is] at h';cases h')
 | .str x,b,v,h,h'=>by
  have e:=by' h;subst e
  cases b<;>first | (rw [Is] at h';obtain ⟨_,_,e,_⟩:=h';cases e) | (rw [Is] at h';cases h';rfl) | (rw [Is] at h';cases h')
 | .tup ds,b,v,h,h'=>by
  obtain ⟨p,xs,rfl,h1,h2⟩:=av' h
  cases b with
  | tup es =>
   obtain ⟨p',aW,e,h3,h4⟩:=av' h'
   cases e
   have:=I.tuple_inj h1 h3
   subst this
   rw [fS' I h2 h4]
  | lst es =>
   obtain ⟨p',aW,e,h3,h4⟩:=ar' h'
   cases e
   obtain ⟨i1,_,t1,_⟩:=I.tuple h1
   obtain ⟨i2,_,t2,_⟩:=I.list (rdL h3)
   exact absurd rfl (ne_of_list_tuple t2.isList t1)
  | _=>rw [Is] at h';cases h'
 | .lst ds,b,v,h,h'=>by
  obtain ⟨p,xs,rfl,h1,h2⟩:=ar' h
  cases b with
  | lst es =>
   obtain ⟨p',aW,e,h3,h4⟩:=ar' h'
   cases e
   have:=I.list_inj (rdL h1) (rdL h3)
   subst this
   rw [fS' I h2 h4]
  | tup es =>
   obtain ⟨p',aW,e,h3,h4⟩:=av' h'
   cases e
   obtain ⟨i1,_,t1,_⟩:=I.tuple h3
   obtain ⟨i2,_,t2,_⟩:=I.list (rdL h1)
   exact absurd rfl (ne_of_list_tuple t2.isList t1)
  | _=>rw [Is] at h';cases h'
theorem fS' (I:Inv X aa U H s):∀ {a b:List D}{v:List V},IsA X.K H a v->IsA X.K H b v->a=b
 | [],b,v,h,h'=>by
  have e:=h.nil_inv;subst e
  cases b with
  | nil=>rfl
  | cons d r=>obtain ⟨_,_,e,_⟩:=h'.cons_inv;cases e
 | d::ds,b,v,h,h'=>by
  obtain ⟨x,r,rfl,h1,h2⟩:=h.cons_inv
  cases b with
  | nil=>have:=h'.nil_inv;cases this
  | cons e es =>
   obtain ⟨x',r',e',h3,h4⟩:=h'.cons_inv
   cases e'
   rw [fl' I h1 h3,fS' I h2 h4]
end
open PySem.SeqAt in
theorem kD' (I:Inv X aa U H s){A:Around} (hu:A.units < cLine){a b:D}{x y:V}{u v:Value} (ha:Is X.K H a x) (hb:Is X.K H b y) (ru:RelV x u) (rv:RelV y v)
  (ht:∀ xs ys,a=.tup xs->b=.tup ys->RcAt A s u v (deq a b)/\EqAt A s u v (deq a b)/\RcNeAt A s u v (!deq a b))
  (hl:∀ xs ys,a=.lst xs->b=.lst ys->RcAt A s u v (deq a b)/\EqAt A s u v (deq a b)/\RcNeAt A s u v (!deq a b)):RcAt A s u v (deq a b)/\EqAt A s u v (deq a b)/\RcNeAt A s u v (!deq a b):=by
 cases a with
 | non =>
  have e:=cf' ha;subst e;cases ru
  cases b with
  | non=>have e:=cf' hb;subst e;cases rv;rw [deq];exact ⟨.none_none,.same _,.none_none⟩
  | bl j=>have e:=a3' hb;subst e;cases rv;rw [deq]<;>first | exact ⟨.none_bool _,.none_bool _,.none_bool _⟩ | (intros;contradiction)
  | int j=>have e:=al' hb;subst e;obtain ⟨t,rfl⟩:=rv;rw [deq]<;>first | exact ⟨.none_int _ _,.none_int _ _,.none_int _ _⟩ | (intros;contradiction)
  | str j=>have e:=by' hb;subst e;obtain ⟨t,rfl⟩:=rv;rw [deq]<;>first | exact ⟨.none_str _ _,.none_str _ _,.none_str _ _⟩ | (intros;contradiction)
  | tup j =>
   obtain ⟨p,xs,rfl,h1,h2⟩:=av' hb;cases rv
   obtain ⟨af,_,t,_⟩:=I.tuple h1
   rw [deq]<;>first | exact ⟨.none_tuple t hu,.none_tuple t hu,.none_tuple t hu⟩ | (intros;contradiction)
  | lst j =>
   obtain ⟨p,xs,rfl,h1,h2⟩:=ar' hb;cases rv
   obtain ⟨af,_,t,_⟩:=I.list (rdL h1)
   have t:=t.isList
   rw [deq]<;>first | exact ⟨.none_list t hu,.none_list t hu,.none_list t hu⟩ | (intros;contradiction)
 | bl i =>
  have e:=a3' ha;subst e;cases ru
  cases b with
  | non=>have e:=cf' hb;subst e;cases rv;rw [deq]<;>first | exact ⟨.bool_none _,.bool_none _,.bool_none _⟩ | (intros;contradiction)
  | bl j=>have e:=a3' hb;subst e;cases rv;rw [deq];exact ⟨.bool_bool _ _,.bool_bool _ _,.bool_bool _ _⟩
  | int j=>have e:=al' hb;subst e;obtain ⟨t,rfl⟩:=rv;rw [deq];exact ⟨.bool_int _ _ _,.bool_int _ _ _,.bool_int _ _ _⟩
  | str j=>have e:=by' hb;subst e;obtain ⟨t,rfl⟩:=rv;rw [deq]<;>first | exact ⟨.bool_str _ _ _,.bool_str _ _ _,.bool_str _ _ _⟩ | (intros;contradiction)
  | tup j =>
   obtain ⟨p,xs,rfl,h1,h2⟩:=av' hb;cases rv
   obtain ⟨af,_,t,_⟩:=I.tuple h1
   rw [deq]<;>first | exact ⟨.bool_tuple _ t hu,.bool_tuple _ t hu,.bool_tuple _ t hu⟩ | (intros;contradiction)
  | lst j =>
   obtain ⟨p,xs,rfl,h1,h2⟩:=ar' hb;cases rv
   obtain ⟨af,_,t,_⟩:=I.list (rdL h1)
   have t:=t.isList
   rw [deq]<;>first | exact ⟨.bool_list _ t hu,.bool_list _ t hu,.bool_list _ t hu⟩ | (intros;contradiction)
 | int i =>
  have e:=al' ha;subst e;obtain ⟨t0,rfl⟩:=ru
  cases b with
  | non=>have e:=cf' hb;subst e;cases rv;rw [deq]<;>first | exact ⟨.int_none _ _,.int_none _ _,.int_none _ _⟩ | (intros;contradiction)
  | bl j=>have e:=a3' hb;subst e;cases rv;rw [deq];exact ⟨.int_bool _ _ _,.int_bool _ _ _,.int_bool _ _ _⟩
  | int j=>have e:=al' hb;subst e;obtain ⟨t,rfl⟩:=rv;rw [deq];exact ⟨.int_int _ _ _ _,.int_int _ _ _ _,.int_int _ _ _ _⟩
  | str j=>have e:=by' hb;subst e;obtain ⟨t,rfl⟩:=rv;rw [deq]<;>first | exact ⟨.int_str _ _ _ _,.int_str _ _ _ _,.int_str _ _ _ _⟩ | (intros;contradiction)
  | tup j =>
   obtain ⟨p,xs,rfl,h1,h2⟩:=av' hb;cases rv
   obtain ⟨af,_,t,_⟩:=I.tuple h1
   rw [deq]<;>first | exact ⟨.int_tuple _ _ t hu,.int_tuple _ _ t hu,.int_tuple _ _ t hu⟩ | (intros;contradiction)
  | lst j =>
   obtain ⟨p,xs,rfl,h1,h2⟩:=ar' hb;cases rv
   obtain ⟨af,_,t,_⟩:=I.list (rdL h1)
   have t:=t.isList
   rw [deq]<;>first | exact ⟨.int_list _ _ t hu,.int_list _ _ t hu,.int_list _ _ t hu⟩ | (intros;contradiction)
 | str i =>
  have e:=by' ha;subst e;obtain ⟨t0,rfl⟩:=ru
  cases b with
  | non=>have e:=cf' hb;subst e;cases rv;rw [deq]<;>first | exact ⟨.str_none _ _,.str_none _ _,.str_none _ _⟩ | (intros;contradiction)
  | bl j=>have e:=a3' hb;subst e;cases rv;rw [deq]<;>first | exact ⟨.str_bool _ _ _,.str_bool _ _ _,.str_bool _ _ _⟩ | (intros;contradiction)
  | int j=>have e:=al' hb;subst e;obtain ⟨t,rfl⟩:=rv;rw [deq]<;>first | exact ⟨.str_int _ _ _ _,.str_int _ _ _ _,.str_int _ _ _ _⟩ | (intros;contradiction)
  | str j=>have e:=by' hb;subst e;obtain ⟨t,rfl⟩:=rv;rw [deq];exact ⟨.str_str _ _ _ _,.str_str _ _ _ _,.str_str _ _ _ _⟩
  | tup j =>
   obtain ⟨p,xs,rfl,h1,h2⟩:=av' hb;cases rv
   obtain ⟨af,_,t,_⟩:=I.tuple h1
   rw [deq]<;>first | exact ⟨.str_tuple _ _ t hu,.str_tuple _ _ t hu,.str_tuple _ _ t hu⟩ | (intros;contradiction)
  | lst j =>
   obtain ⟨p,xs,rfl,h1,h2⟩:=ar' hb;cases rv
   obtain ⟨af,_,t,_⟩:=I.list (rdL h1)
   have t:=t.isList
   rw [deq]<;>first | exact ⟨.str_list _ _ t hu,.str_list _ _ t hu,.str_list _ _ t hu⟩ | (intros;contradiction)
 | tup i =>
  obtain ⟨q,ys,rfl,g1,g2⟩:=av' ha;cases ru
  obtain ⟨aX,_,t',_⟩:=I.tuple g1
  cases b with
  | non=>have e:=cf' hb;subst e;cases rv;rw [deq]<;>first | exact ⟨.tuple_none t' hu,.tuple_none t' hu,.tuple_none t' hu⟩ | (intros;contradiction)
  | bl j=>have e:=a3' hb;subst e;cases rv;rw [deq]<;>first | exact ⟨.tuple_bool _ t' hu,.tuple_bool _ t' hu,.tuple_bool _ t' hu⟩ | (intros;contradiction)
  | int j=>have e:=al' hb;subst e;obtain ⟨t,rfl⟩:=rv;rw [deq]<;>first | exact ⟨.tuple_int _ _ t' hu,.tuple_int _ _ t' hu,.tuple_int _ _ t' hu⟩ | (intros;contradiction)
  | str j=>have e:=by' hb;subst e;obtain ⟨t,rfl⟩:=rv;rw [deq]<;>first | exact ⟨.tuple_str _ _ t' hu,.tuple_str _ _ t' hu,.tuple_str _ _ t' hu⟩ | (intros;contradiction)
  | tup j=>exact ht _ _ rfl rfl
  | lst j =>
   obtain ⟨p,xs,rfl,h1,h2⟩:=ar' hb;cases rv
   obtain ⟨af,_,t,_⟩:=I.list (rdL h1)
   have t:=t.isList
   rw [deq]<;>first | exact ⟨.tuple_list t' t hu,.tuple_list t' t hu,.tuple_list t' t hu⟩ | (intros;contradiction)
 | lst i =>
  obtain ⟨q,ys,rfl,g1,g2⟩:=ar' ha;cases ru
  obtain ⟨aX,_,t',_⟩:=I.list (rdL g1)
  have t':=t'.isList
  cases b with
  | non=>have e:=cf' hb;subst e;cases rv;rw [deq]<;>first | exact ⟨.list_none t' hu,.list_none t' hu,.list_none t' hu⟩ | (intros;contradiction)
  | bl j=>have e:=a3' hb;subst e;cases rv;rw [deq]<;>first | exact ⟨.list_bool _ t' hu,.list_bool _ t' hu,.list_bool _ t' hu⟩ | (intros;contradiction)
  | int j=>have e:=al' hb;subst e;obtain ⟨t,rfl⟩:=rv;rw [deq]<;>first | exact ⟨.list_int _ _ t' hu,.list_int _ _ t' hu,.list_int _ _ t' hu⟩ | (intros;contradiction)
  | str j=>have e:=by' hb;subst e;obtain ⟨t,rfl⟩:=rv;rw [deq]<;>first | exact ⟨.list_str _ _ t' hu,.list_str _ _ t' hu,.list_str _ _ t' hu⟩ | (intros;contradiction)
  | lst j=>exact hl _ _ rfl rfl
  | tup j =>
   obtain ⟨p,xs,rfl,h1,h2⟩:=av' hb;cases rv
   obtain ⟨af,_,t,_⟩:=I.tuple h1
   rw [deq]<;>first | exact ⟨.list_tuple t' t hu,.list_tuple t' t hu,.list_tuple t' t hu⟩ | (intros;contradiction)
open PySem.SeqAt in
theorem fm' (I:Inv X aa U H s):∀ (n:Nat) (A:Around),A.units+n < cLine->∀ (a b:D) (x y:V) (u v:Value),dep a<=n\/dep b<=n->Is X.K H a x->Is X.K H b y->RelV x u->RelV y v->RcAt A s u v (deq a b)/\EqAt A s u v (deq a b)/\RcNeAt A s u v (!deq a b):=by
 intro n
 induction n with
 | zero =>
  intro A hu a b x y u v hd ha hb ru rv
  refine kD' I (by omega) ha hb ru rv (λxs ys e1 e2=>?_) (λxs ys e1 e2=>?_)<;>(subst e1;subst e2;rw [dep,dep] at hd;omega)
 | succ n ih =>
  intro A hu a b x y u v hd ha hb ru rv
  have eJ:A.in1.units+n < cLine:=by show A.units+1+n < cLine;omega
  refine kD' I (by omega) ha hb ru rv (λds es e1 e2=>?_) (λds es e1 e2=>?_)
  ·subst e1;subst e2
   obtain ⟨p,xs,rfl,h1,h2⟩:=av' ha
   obtain ⟨q,ys,rfl,h3,h4⟩:=av' hb
   cases ru;cases rv
   obtain ⟨af,r1,t1,_⟩:=I.tuple h1
   obtain ⟨aX,r2,t2,_⟩:=I.tuple h3
   have l1:af.toArray.size=ds.length:=by rw [size_toArray,← r1.length,h2.length]
   have l2:aX.toArray.size=es.length:=by rw [size_toArray,← r2.length,h4.length]
   have hk:∀ j (g1:j < af.toArray.size) (g2:j < aX.toArray.size),EqAt A.in1 s af.toArray[j] aX.toArray[j] (deq (ds.getD j .non) (es.getD j .non)):=λj g1 g2=>by
    obtain ⟨v1,q1,q2⟩:=h2.getU r1 g1
    obtain ⟨v2,q3,q4⟩:=h4.getU r2 g2
    refine (ih A.in1 eJ _ _ _ _ _ _ ?_ q2 q4 q1 q3).2.1
    have m1:ds.getD j .non∈ds:=by
     rw [getD_eq_getElem?_getD,getElem?_eq_getElem (by omega)]
     exact getElem_mem _
    have m2:es.getD j .non∈es:=by
     rw [getD_eq_getElem?_getD,getElem?_eq_getElem (by omega)]
     exact getElem_mem _
    have k1:=b4' m1
    have k2:=b4' m2
    rw [dep,dep] at hd
    omega
   have re:((range (min af.toArray.size aX.toArray.size)).all (λj=>deq (ds.getD j .non) (es.getD j .non))&&af.toArray.size == aX.toArray.size)=deqA ds es:=by
    rw [l1,l2];exact cp' ds es
   have R1:=RcAt.tuples (A:=A) t1 t2 (by omega) hk
   have R3:=RcNeAt.tuples (A:=A) t1 t2 (by omega) hk
   rw [re] at R1 R3
   have ed:deq (.tup ds) (.tup es)=deqA ds es:=by rw [deq]
   rw [ed]
   refine ⟨R1,?_,R3⟩
   by_cases fN:p=q
   ·subst fN
    have:=fl' I ha hb
    cases this
    rw [ch']
    exact .same _
   ·exact .of_refs fN R1
  ·subst e1;subst e2
   obtain ⟨p,xs,rfl,h1,h2⟩:=ar' ha
   obtain ⟨q,ys,rfl,h3,h4⟩:=ar' hb
   cases ru;cases rv
   obtain ⟨af,r1,t1,_⟩:=I.list (rdL h1)
   obtain ⟨aX,r2,t2,_⟩:=I.list (rdL h3)
   have t1:=t1.isList
   have t2:=t2.isList
   have l1:af.toArray.size=ds.length:=by rw [size_toArray,← r1.length,h2.length]
   have l2:aX.toArray.size=es.length:=by rw [size_toArray,← r2.length,h4.length]
   have ed:deq (.lst ds) (.lst es)=deqA ds es:=by rw [deq]
   rw [ed]
   have fin:RcAt A s (.ref p) (.ref q) (deqA ds es)/\RcNeAt A s (.ref p) (.ref q) (!deqA ds es):=by
    by_cases hl:ds.length=es.length
    ·have hk:∀ j (g1:j < af.toArray.size) (g2:j < aX.toArray.size),EqAt A.in1 s af.toArray[j] aX.toArray[j] (deq (ds.getD j .non) (es.getD j .non)):=λj g1 g2=>by
      obtain ⟨v1,q1,q2⟩:=h2.getU r1 g1
      obtain ⟨v2,q3,q4⟩:=h4.getU r2 g2
      refine (ih A.in1 eJ _ _ _ _ _ _ ?_ q2 q4 q1 q3).2.1
      have m1:ds.getD j .non∈ds:=by
       rw [getD_eq_getElem?_getD,getElem?_eq_getElem (by omega)]
       exact getElem_mem _
      have m2:es.getD j .non∈es:=by
       rw [getD_eq_getElem?_getD,getElem?_eq_getElem (by omega)]
       exact getElem_mem _
      have k1:=b4' m1
      have k2:=b4' m2
      rw [dep,dep] at hd
      omega
     have re:(range af.toArray.size).all (λj=>deq (ds.getD j .non) (es.getD j .non))=deqA ds es:=by
      rw [← cp' ds es,l1,hl,Nat.min_self,beq_self_eq_true,Bool.and_true]
     have R1:=RcAt.lists (A:=A) t1 t2 (by omega) (by omega) hk
     have R3:=RcNeAt.lists (A:=A) t1 t2 (by omega) (by omega) hk
     rw [re] at R1 R3
     exact ⟨R1,R3⟩
    ·rw [mh' hl]
     have gG:(af.toArray.size != aX.toArray.size)=true:=by rw [l1,l2];simpa using hl
     exact ⟨.lists_lengths t1 t2 gG (by omega),.lists_lengths t1 t2 gG (by omega)⟩
   refine ⟨fin.1,?_,fin.2⟩
   by_cases fN:p=q
   ·subst fN
    have:=fl' I ha hb
    cases this
    rw [ch']
    exact .same _
   ·exact .of_refs fN fin.1
noncomputable def rEqD (K:PySem.W.Frag) (neg:Bool):R2:=λx y H Q=>∃ a b,Is K H a x/\Is K H b y/\(dep a<=100\/dep b<=100)/\Q (.bl (if neg then !deq a b else deq a b)) H
theorem kE' (hu:X.A.units+100 < cLine):OpR X (compareOp .Eq) (rEqD X.K false):=by
 intro aa s U H x y v u Q I rx ry h
 obtain ⟨a,b,h1,h2,h3,q⟩:=h
 exact (fm' I 100 X.A hu a b x y v u h3 h1 h2 rx ry).1 _ _ _ _ ⟨.bl (deq a b),H,I,rfl,q⟩
theorem kF' (hu:X.A.units+100 < cLine):OpR X (compareOp .NotEq) (rEqD X.K true):=by
 intro aa s U H x y v u Q I rx ry h
 obtain ⟨a,b,h1,h2,h3,q⟩:=h
 exact (fm' I 100 X.A hu a b x y v u h3 h1 h2 rx ry).2.2 _ _ _ _ ⟨.bl (!deq a b),H,I,rfl,q⟩
noncomputable def rInD (K:PySem.W.Frag) (neg:Bool):R2:=λx y H Q=>∃ a ds,Is K H a x/\(Is K H (.lst ds) y\/Is K H (.tup ds) y)/\(dep a<=99)/\Q (.bl (if neg then !ds.any (λd=>deq d a) else ds.any λd=>deq d a)) H
theorem mi' {K:PySem.W.Frag}{ds:List D}{xs:List V}{us:List Value}{f:D->Bool}{e:Value->Bool} (h:IsA K H ds xs) (r:Vals xs us) (hf:∀ d v u,d∈ds->Is K H d v->RelV v u->e u=f d):us.any e=ds.any f:=by
 induction ds generalizing xs us with
 | nil=>have:=h.nil_inv;subst this;cases r;rfl
 | cons d ds ih =>
  obtain ⟨x,xr,rfl,h1,h2⟩:=h.cons_inv
  cases r with
  | cons r1 r2 =>
   rw [any_cons,any_cons,hf d _ _ mem_cons_self h1 r1,ih h2 r2 λd v u hd=>hf d v u (mem_cons_of_mem _ hd)]
theorem n5' (hu:X.A.units+100 < cLine){neg:Bool}{aa:List (Addr×Obj)}{U:L2.St}{H:Hp}{s:Shared}{x y:V}{v u:Value}{Q:VK} (I:Inv X aa U H s) (rx:RelV x v) (ry:RelV y u) (h:rInD X.K neg x y H Q) :
  ∃ (af:Array Value) (e:Value->Bool) (l:Addr),u=.ref l/\(s.heap.IsList l af\/s.heap.IsTuple l af)/\(∀ z,z∈af->PySem.SeqAt.EqAt X.A.in1 s z v (e z))/\Q (.bl (if neg then !af.any e else af.any e)) H:=by
 obtain ⟨a,ds,h1,h2,h3,q⟩:=h
 have eJ:X.A.in1.units+99 < cLine:=by show X.A.units+1+99 < cLine;omega
 -- every item has af data: e reads it j5
 have key:∀ (xs:List V) (af:List Value),IsA X.K H ds xs->Vals xs af->∃ e:Value->Bool,(∀ z,z∈af.toArray->PySem.SeqAt.EqAt X.A.in1 s z v (e z))/\af.toArray.any e=ds.any λd=>deq d a:=by
  intro xs af ha r
  have ex:∀ z:Value,∃ b:Bool,∀ d w,d∈ds->Is X.K H d w->RelV w z->b=deq d a:=λz=>by
   by_cases hz:∃ d w,d∈ds/\Is X.K H d w/\RelV w z
   ·obtain ⟨d,w,hd,hi,hr⟩:=hz
    refine ⟨deq d a,λd' w' bj bP qS=>?_⟩
    have:=RelV.inj hr qS
    subst this
    rw [fl' I hi bP]
   ·exact ⟨false,λd w hd hi hr=>absurd ⟨d,w,hd,hi,hr⟩ hz⟩
  refine ⟨λz=>(ex z).choose,λz hz=>?_,?_⟩
  ·have qT:z∈af:=by simpa using hz
   obtain ⟨j,hj,ej⟩:=mem_iff_getElem.mp qT
   obtain ⟨w,q1,q2⟩:=ha.getU r (j:=j) (by simpa using hj)
   have np:RelV w z:=by
    have:af.toArray[j]'(by simpa using hj)=z:=by simpa using ej
    rw [← this];exact q1
   have hm:ds.getD j .non∈ds:=by
    have l1:=ha.length
    have l2:=r.length
    rw [getD_eq_getElem?_getD,getElem?_eq_getElem (by omega)]
    exact getElem_mem _
   show PySem.SeqAt.EqAt X.A.in1 s z v (ex z).choose
   rw [(ex z).choose_spec _ w hm q2 np]
   exact (fm' I 99 X.A.in1 eJ _ a w x z v (.inr h3) q2 h1 np rx).2.1
  ·have:af.toArray.any (λz=>(ex z).choose)=af.any (λz=>(ex z).choose):=by simp
   rw [this]
   exact mi' ha r λd w z hd hi hr=>(ex z).choose_spec d w hd hi hr
 rcases h2 with h2 | h2
 ·obtain ⟨l,xs,rfl,g1,g2⟩:=ar' h2
  cases ry
  obtain ⟨af,r,t,_⟩:=I.list (rdL g1)
  obtain ⟨e,k1,k2⟩:=key xs af g2 r
  exact ⟨af.toArray,e,l,rfl,.inl t.isList,k1,by rw [k2];exact q⟩
 ·obtain ⟨l,xs,rfl,g1,g2⟩:=av' h2
  cases ry
  obtain ⟨af,r,t,_⟩:=I.tuple g1
  obtain ⟨e,k1,k2⟩:=key xs af g2 r
  exact ⟨af.toArray,e,l,rfl,.inr t,k1,by rw [k2];exact q⟩
theorem iP' (hu:X.A.units+100 < cLine):OpR X (compareOp .NotIn) (rInD X.K true):=by
 intro aa s U H x y v u Q I rx ry h
 obtain ⟨af,e,l,rfl,hl,he,q⟩:=n5' hu I rx ry h
 rcases hl with hl | hl
 ·exact PySem.SeqAt.notIn_listAt e hl he ⟨.bl (!af.any e),H,I,rfl,q⟩
 ·exact PySem.SeqAt.notIn_tupleAt e hl he ⟨.bl (!af.any e),H,I,rfl,q⟩
end
end DL
set_option exponentiation.threshold 2000
namespace DL
open PySem PySem.Spec PyProof.Rows L2
noncomputable def intF (C:Int->Int->Bool) (g:Int->Int->D) (a b:D):Option D:=match a,b with
 | .int i,.int j=>if C i j then some (g i j) else none
 | _,_=>none
theorem eK' {C:Int->Int->Bool}{g:Int->Int->D}{a b d:D} (h:intF C g a b=some d):∃ i j,a=.int i/\b=.int j/\C i j=true/\d=g i j:=by
 unfold intF at h
 split at h
 ·obtain ⟨h1,h2⟩:=aq' h
  exact ⟨_,_,rfl,rfl,h1,h2⟩
 ·cases h
noncomputable def tt2 (_ _:Int):Bool:=true
theorem od_I {K:PySem.W.Frag}{C:Int->Int->Prop}{c:Int->Int->Bool}{g:Int->Int->Int} (hc:∀ i j,c i j=true->C i j):OpD K (rI C λi j=>.int (g i j)) (intF c λi j=>.int (g i j)):=λa b d e B G I H U Z x y Q r hx hy k=>by
 obtain ⟨i,j,rfl,rfl,h,rfl⟩:=eK' e
 exact ⟨i,j,al' hx,al' hy,hc i j h,k.now r (Is.int _)⟩
theorem qB' {K:PySem.W.Frag}{g:Int->Int->Int}:OpD K (rI0 λi j=>.int (g i j)) (intF tt2 λi j=>.int (g i j)):=λa b d e B G I H U Z x y Q r hx hy k=>by
 obtain ⟨i,j,rfl,rfl,h,rfl⟩:=eK' e
 exact ⟨i,j,al' hx,al' hy,k.now r (Is.int _)⟩
theorem dr' {K:PySem.W.Frag}{g:Int->Int->Bool}:OpD K (rI0 λi j=>.bl (g i j)) (intF tt2 λi j=>.bl (g i j)):=λa b d e B G I H U Z x y Q r hx hy k=>by
 obtain ⟨i,j,rfl,rfl,h,rfl⟩:=eK' e
 exact ⟨i,j,al' hx,al' hy,k.now r (Is.bl _)⟩
def subI:D->D->Option D:=intF tt2 λi j=>.int (i - j)
noncomputable def mulI:D->D->Option D:=intF (λi j=>decide ((-(2 ^ 64) < i/\i < 2 ^ 64)\/(-(2 ^ 64) < j/\j < 2 ^ 64))) λi j=>.int (i*j)
def modI:D->D->Option D:=intF (λ_ j=>decide (0 < j)) λi j=>.int (i % j)
def divI:D->D->Option D:=intF (λ_ j=>decide (0 < j/\j < 2 ^ 200)) λi j=>.int (i / j)
noncomputable def powI:D->D->Option D:=intF (λi j=>decide (0<=j/\j<=1000000/\i.natAbs < 2 ^ 64)) λi j=>.int (i ^ j.toNat)
def ltI:D->D->Option D:=intF tt2 λi j=>.bl (decide (i < j))
def leI:D->D->Option D:=intF tt2 λi j=>.bl (decide (i<=j))
def gtI:D->D->Option D:=intF tt2 λi j=>.bl (decide (j < i))
def geI:D->D->Option D:=intF tt2 λi j=>.bl (decide (j<=i))
section
variable {X:Cx}{B:BB}{a b c e:Expr}{es:List Expr}{pos:Pos}{ga gb gc:M D}
theorem a6' (ha:ED X B a ga) (hb:ED X B b gb):ED X B (.BinOp a .Sub b pos) (op2 subI ga gb):=ec' pn' qB' ha hb
theorem aT' (ha:ED X B a ga) (hb:ED X B b gb):ED X B (.BinOp a .Mult b pos) (op2 mulI ga gb):=ec' po' (od_I (C:=CMul) λi j h=>(of_decide_eq_true h:_\/_)) ha hb
theorem bA' (ha:ED X B a ga) (hb:ED X B b gb):ED X B (.BinOp a .Mod b pos) (op2 modI ga gb):=ec' pp' (od_I λi j h=>of_decide_eq_true h) ha hb
theorem hu' (ha:ED X B a ga) (hb:ED X B b gb):ED X B (.BinOp a .Pow b pos) (op2 powI ga gb):=ec' pq' (od_I (C:=CPow) λi j h=>(of_decide_eq_true h:_/\_/\_)) ha hb
def CDivW (i j:Int):Prop:=0 < j/\j < 2 ^ 200
theorem mj':OpR X (binaryOp .FloorDiv) (rI CDivW λi j=>.int (i / j)):=opI λi j _ _ _ _ _ hc q=>by
 have h1:(0:Int) < j:=hc.1
 have h2:j.natAbs < 2 ^ 200:=by
  have:=hc.2
  omega
 have h4:j.natAbs.log2 < 9000:=by
  have h5:j.natAbs.log2 < 200:=(Nat.log2_lt (by omega)).mpr h2
  omega
 refine floordiv_int (by omega) ?_ (.inl (PyProof.noPylong_of_log2 h4))
 rw [Int.fdiv_eq_ediv_of_nonneg _ (Int.le_of_lt h1)]
 exact q
theorem pM' (ha:ED X B a ga) (hb:ED X B b gb):ED X B (.BinOp a .FloorDiv b pos) (op2 divI ga gb):=ec' mj' (od_I (C:=CDivW) λi j h=>(of_decide_eq_true h:_/\_)) ha hb
theorem qC' (ha:ED X B a ga) (hb:ED X B b gb):ED X B (.Compare a [.GtE] [b] pos) (op2 geI ga gb):=ha' nm' dr' ha hb
theorem ej' (ha:ED X B a ga) (hb:ED X B b gb):TD X B (.Compare a [.Lt] [b] pos) (tst (op2 ltI ga gb)):=cC' js' dr' ha hb
theorem jD' (ha:ED X B a ga) (hb:ED X B b gb):TD X B (.Compare a [.Gt] [b] pos) (tst (op2 gtI ga gb)):=cC' qu' dr' ha hb
theorem qD' (ha:ED X B a ga) (hb:ED X B b gb):TD X B (.Compare a [.GtE] [b] pos) (tst (op2 geI ga gb)):=cC' nm' dr' ha hb
noncomputable def eqF (neg:Bool) (a b:D):Option D:=if dep a<=100\/dep b<=100 then some (.bl (if neg then !deq a b else deq a b)) else none
theorem jE' {K:PySem.W.Frag}{neg:Bool}:OpD K (rEqD K neg) (eqF neg):=λa b d e B G I H U Z x y Q r hx hy k=>by
 obtain ⟨h1,rfl⟩:=aq' e
 exact ⟨a,b,hx.mono r.iH,hy.mono r.iH,h1,k.now r (Is.bl _)⟩
variable {kr:Nat}
theorem hu100 {A:Around}{k:Nat} (hr:Room k A):A.units+100 < cLine:=by have:=hr.un;omega
theorem nA' (hr:Room kr X.A) (ha:ED X B a ga) (hb:ED X B b gb):ED X B (.Compare a [.Eq] [b] pos) (op2 (eqF false) ga gb):=ha' (kE' (hu100 hr)) jE' ha hb
theorem jF' (hr:Room kr X.A) (ha:ED X B a ga) (hb:ED X B b gb):TD X B (.Compare a [.Eq] [b] pos) (tst (op2 (eqF false) ga gb)):=cC' (kE' (hu100 hr)) jE' ha hb
theorem fn' (hr:Room kr X.A) (ha:ED X B a ga) (hb:ED X B b gb):TD X B (.Compare a [.NotEq] [b] pos) (tst (op2 (eqF true) ga gb)):=cC' (kF' (hu100 hr)) jE' ha hb
noncomputable def inF (neg:Bool) (a b:D):Option D:=match seqI b with
 | some ds=>if dep a<=99 then some (.bl (if neg then !ds.any (λd=>deq d a) else ds.any λd=>deq d a)) else none
 | none=>none
theorem nB' {K:PySem.W.Frag}{neg:Bool}:OpD K (rInD K neg) (inF neg):=λa b d e B G I H U Z x y Q r hx hy k=>by
 unfold inF at e
 cases b with
 | lst ds =>
  obtain ⟨h1,rfl⟩:=aq' e
  exact ⟨a,ds,hx.mono r.iH,.inl (hy.mono r.iH),h1,k.now r (Is.bl _)⟩
 | tup ds =>
  obtain ⟨h1,rfl⟩:=aq' e
  exact ⟨a,ds,hx.mono r.iH,.inr (hy.mono r.iH),h1,k.now r (Is.bl _)⟩
 | _=>cases e
theorem pN' (hr:Room kr X.A) (ha:ED X B a ga) (hb:ED X B b gb) (hm:behindInMarks .NotIn b=false:=by rfl):ED X B (.Compare a [.NotIn] [b] pos) (op2 (inF true) ga gb):=ha' (iP' (hu100 hr)) nB' ha hb hm
theorem pO' (hr:Room kr X.A) (ha:ED X B a ga) (hb:ED X B b gb) (hm:behindInMarks .NotIn b=false:=by rfl):TD X B (.Compare a [.NotIn] [b] pos) (tst (op2 (inF true) ga gb)):=cC' (iP' (hu100 hr)) nB' ha hb hm
noncomputable def rCatTT (K:PySem.W.Frag):R2:=λx y H Q=>∃ a b xs ys,x=.ref a/\y=.ref b/\SqT K H a xs/\SqT K H b ys/\xs.length+ys.length<=sizeLine ∧
 (xs=[]->Q (.ref b) H)/\(xs≠[]->ys=[]->Q (.ref a) H)/\(xs≠[]->ys≠[]->∀ p,H p=none->Q (.ref p) (upd H p (.tup (xs++ys))))
theorem ml':OpR X (binaryOp .Add) (rCatTT X.K):=by
 intro aa s U H x y v u Q I rx ry h
 obtain ⟨a,b,xs,ys,rfl,rfl,ha,hb,hz,q0,q1,q2⟩:=h
 cases rx
 cases ry
 obtain ⟨af,r1,p1,_⟩:=I.tuple ha
 obtain ⟨bL,r2,p2,_⟩:=I.tuple hb
 by_cases hx:xs=[]
 ·subst hx
  cases r1
  obtain ⟨⟨cls,dd,data,sl⟩,ho,hc,n,hd⟩:=id p1
  obtain ⟨⟨mO,im,data2,fH⟩,eu,cR,n2,dI⟩:=id p2
  simp only at hc hd cR dI
  subst hc hd cR dI
  exact concat_meets ⟨_,ho,rfl⟩ ⟨_,eu,rfl⟩ noFill_tuple_add seq_tuple_add slot_tuple_add entry_tuple_add (args_tuple_add_2 _ _)
   (tuple_addW0 a b _ bL.toArray n n2 dd im sl fH (by simp)) ⟨ho,eu,⟨.ref b,H,I,rfl,q0 rfl⟩⟩
 ·exact nS' aa s U H (.ref a) (.ref b) _ _ Q I rfl rfl ⟨a,b,xs,ys,rfl,rfl,ha,hb,hx,hz,q1 hx,q2 hx⟩
noncomputable def addF (a b:D):Option D:=match a,b with
 | .int i,.int j=>some (.int (i+j))
 | .tup xs,.tup ys=>if xs.length+ys.length<=lim then some (.tup (xs++ys)) else none
 | .str x,.str y=>if x.length+y.length<=lim then some (.str (x++y)) else none
 | _,_=>none
theorem IsA.ne_nil {K:PySem.W.Frag}{I:Hp}{ds:List D}{xs:List V} (h:IsA K I ds xs):xs=[]↔ds=[]:=by
 have:=h.length
 constructor
 ·intro e;subst e;exact length_eq_zero_iff.mp this
 ·intro e;subst e;exact length_eq_zero_iff.mp this.symm
theorem aw' (ha:ED X B a ga) (hb:ED X B b gb):ED X B (.BinOp a .Add b pos) (op2 addF ga gb):=ec' ((pm'.or ml').or jt') (λa b d e B G I H U Z x y Q r hx hy k=>by
 unfold addF at e
 split at e
 ·cases e
  exact .inl (.inl ⟨_,_,al' hx,al' hy,k.now r (Is.int _)⟩)
 ·obtain ⟨hl,rfl⟩:=aq' e
  obtain ⟨p,xs,rfl,h1,h2⟩:=av' hx
  obtain ⟨q,ys,rfl,h3,h4⟩:=av' hy
  refine .inl (.inr ⟨p,q,xs,ys,rfl,rfl,Same.sqT r.iH h1,Same.sqT r.iH h3,by rw [← h2.length,← h4.length];exact cg' hl,λz=>?_,λ_ z=>?_,λ_ _ p' hp=>k.tup r hp (IsA.append h2 h4)⟩)
  ·have:=h2.ne_nil.mp z
   subst this
   exact k.now r (Is.tup h3 h4)
  ·have:=h4.ne_nil.mp z
   subst this
   rw [append_nil] at k
   exact k.now r (Is.tup h1 h2)
 ·obtain ⟨hl,rfl⟩:=aq' e
  exact .inr ⟨_,_,by' hx,by' hy,cg' hl,k.now r (Is.str _)⟩
 ·cases e) ha hb
noncomputable def rCatR (K:PySem.W.Frag):R2:=λx y H Q=>∃ l b xs zs,x=.ref l/\y=.ref b/\RdK K H l xs/\RdK K H b zs/\xs.length+zs.length<=sizeLine/\∀ p,H p=none->Q (.ref p) (upd H p (.lst (xs++zs)))
theorem n6':OpR X (binaryOp .Add) (rCatR X.K):=by
 intro aa s U H x y v u Q I rx ry h
 obtain ⟨l,b,xs,zs,rfl,rfl,hH,hB,hz,q⟩:=h
 cases rx
 cases ry
 obtain ⟨z,af,n,r,hl,e⟩:=fP' I hH
 obtain ⟨z2,bL,n2,r2,dR,e2⟩:=fP' I hB
 refine PySem.P.add_list e e2 ?_ (by rw [size_toArray,size_toArray];omega)
 have ea:af.toArray++bL.toArray=(af++bL).toArray:=by simp
 rw [ea]
 exact ⟨.ref _,_,I.lnew (t':=s.toks) (r.append r2) (by rw [length_append];omega),rfl,q _ I.fresh⟩
noncomputable def catF (a b:D):Option (List D):=match a,b with
 | .lst xs,.lst ys=>if xs.length+ys.length<=lim then some (xs++ys) else none
 | _,_=>none
theorem fo' (ha:ED X B a ga) (hb:ED X B b gb):EO X B (.BinOp a .Add b pos) (op2 catF ga gb):=qw' n6' (λa b d e B G I H U Z x y Q r hx hy k=>by
 unfold catF at e
 split at e
 ·obtain ⟨hl,rfl⟩:=aq' e
  obtain ⟨p,xs,rfl,h1,h2⟩:=ar' hx
  obtain ⟨q,ys,rfl,h3,h4⟩:=ar' hy
  exact ⟨p,q,xs,ys,rfl,rfl,Same.rdK r.iH h1,Same.rdK r.iH h3,by rw [← h2.length,← h4.length];exact cg' hl,λp' hp=>k.new r hp (IsA.append h2 h4)⟩
 ·cases e) ha hb
theorem IsA.at {K:PySem.W.Frag}{I:Hp}{ds:List D}{xs:List V}{i:Int}{d:D} (h:IsA K I ds xs) (e:atI ds i=some d):∃ x,atI xs i=some x/\Is K I d x:=by
 unfold atI at e ⊢
 rw [← h.length]
 cases hj:ixN ds.length i with
 | none=>rw [hj] at e;cases e
 | some j =>
  rw [hj] at e
  exact h.get e
def ixF (a b:D):Option D:=match seqI a,asI b with
 | some ds,some i=>atI ds i
 | _,_=>none
theorem iQ' {a b d:D} (h:ixF a b=some d):∃ ds i,(a=.lst ds\/a=.tup ds)/\b=.int i/\atI ds i=some d:=by
 unfold ixF at h
 cases a<;>cases b<;>simp [seqI,asI] at h
 ·exact ⟨_,_,.inr rfl,rfl,h⟩
 ·exact ⟨_,_,.inl rfl,rfl,h⟩
theorem aj' (ha:ED X B a ga) (hb:ED X B b gb) (hs:PlainIx b:=by exact λ_ _=>rfl):ED X B (.Subscript a b pos) (op2 ixF ga gb):=qx' (iN'.or pz') (λa b d e B G I H U Z x y Q r hx hy k=>by
 obtain ⟨ds,i,h1,rfl,h2⟩:=iQ' e
 rcases h1 with rfl | rfl
 ·obtain ⟨p,xs,rfl,h3,h4⟩:=ar' hx
  obtain ⟨v,e5,e6⟩:=h4.at h2
  exact .inl ⟨p,xs,i,v,rfl,al' hy,(Same.rdK r.iH h3).sq,e5,k.now r e6⟩
 ·obtain ⟨p,xs,rfl,h3,h4⟩:=av' hx
  obtain ⟨v,e5,e6⟩:=h4.at h2
  exact .inr ⟨p,xs,i,v,rfl,al' hy,Same.sqT r.iH h3,e5,k.now r e6⟩) ha hb hs
noncomputable def look (i:Nat):M D:=λZ=>match Z[i]? with
 | some (some (.own ds))=>some (.lst ds,Z)
 | some (some (.bor ds))=>some (.lst ds,Z)
 | _=>none
theorem eL' {K:PySem.W.Frag}{G I H:Hp}{U:L2.St}{Z aj:Gm}{i:Nat}{d:D} (h:look i Z=some (d,aj)) (r:Rep K B G I H U Z):aj=Z/\∃ p xs ds,d=.lst ds/\U[i]?=some (some (.ref p))/\H p=some (.lst xs)/\IsA K I ds xs:=by
 unfold look at h
 cases e:Z[i]? with
 | none=>rw [e] at h;cases h
 | some o =>
  cases o with
  | none=>rw [e] at h;cases h
  | some q =>
   rw [e] at h
   obtain ⟨v,h1,h2⟩:=r.slot i q e
   cases q with
   | val _=>cases h
   | own ds=>cases h;obtain ⟨p,xs,rfl,g1,_,_,g4⟩:=h2;exact ⟨rfl,p,xs,ds,rfl,h1,g1,g4⟩
   | fro ds=>cases h
   | dic ds=>cases h
   | bor ds=>cases h;obtain ⟨p,xs,rfl,g1,_,_,g4⟩:=h2;exact ⟨rfl,p,xs,ds,rfl,h1,g1,g4⟩
def atN (i:Nat) (g:M D):M D:=mutS i (bnd g λn=>bnd (look i) λl=>lft (ixF l n))
theorem aY' {i:Nat}{x:Str}{p1:Pos} (hv:PE X (.Name x p1) (tVar i)) (hb:ED X B b gb) (hs:PlainIx b:=by exact λ_ _=>rfl):ED X B (.Subscript (.Name x p1) b pos) (atN i gb):=PE.imp (nq' iN' hv hb hs) λU H Q q=>by
 obtain ⟨G,I,Z,d,aj,r,e1,k⟩:=q
 obtain ⟨hm,e1⟩:=b1' e1
 obtain ⟨n,ae,e2,e3⟩:=ac' e1
 obtain ⟨l,ao,e4,e5⟩:=ac' e3
 obtain ⟨e6,rfl⟩:=am' e5
 obtain ⟨p,xs,h1,h2⟩:=bl' hm r
 refine ⟨_,h1,G,I,Z,n,ae,r,e2,λv H1 I1 r1 g1 hn=>?_⟩
 obtain ⟨rfl,p',aW,ds,rfl,f1,f2,f3⟩:=eL' e4 r1
 have hp:p'=p:=by rw [h1] at f1;cases f1;rfl
 subst hp
 obtain ⟨ix,j,g2,rfl,g3⟩:=iQ' e6
 rcases g2 with g2 | g2
 ·cases g2
  obtain ⟨y,e7,e8⟩:=f3.at g3
  exact ⟨p',aW,j,y,rfl,al' hn,SqL.of f2,e7,(k.after g1).now r1 e8⟩
 ·cases g2
noncomputable def lenF (ds:List D):Option D:=match ds with
 | [.lst xs]=>some (.int xs.length)
 | [.tup xs]=>some (.int xs.length)
 | _=>none
theorem mn' {ds:List D}{d:D} (h:lenF ds=some d):∃ xs,(ds=[.lst xs]\/ds=[.tup xs])/\d=.int xs.length:=by
 unfold lenF at h
 split at h
 ·cases h;exact ⟨_,.inl rfl,rfl⟩
 ·cases h;exact ⟨_,.inr rfl,rfl⟩
 ·cases h
theorem bm' {p:Pos}{t:M (List D)} (hg:Gl X "len") (hm:X.mg "len"=none) (ha:AD X B [e] t) (he:starEach [e] X.env=(false,eval e X.env)::starEach [] X.env:=by rfl) (aA:(backTo pos (starEach [] X.env)).any (·.1)=false:=by rfl) :
  ED X B (.Call (.Name "len" p) [e] [] pos) (fn1 lenF t):=fj' dN' (λds d e B G I H U Z xs Q r h k=>by
 obtain ⟨ys,h1,rfl⟩:=mn' e
 rcases h1 with rfl | rfl
 ·obtain ⟨x,rfl,hx⟩:=h.one
  obtain ⟨q,zs,rfl,h3,h4⟩:=ar' hx
  exact ⟨q,zs,rfl,.inl ((Same.rdK r.iH h3).sq),by rw [h4.length] at k;exact k.now r (Is.int _)⟩
 ·obtain ⟨x,rfl,hx⟩:=h.one
  obtain ⟨q,zs,rfl,h3,h4⟩:=av' hx
  exact ⟨q,zs,rfl,.inr (Same.sqT r.iH h3),by rw [h4.length] at k;exact k.now r (Is.int _)⟩) hg hm PySem.boot_len ha (by decide) (by decide) he aA
def lenN (i:Nat):M D:=bnd (look i) λl=>lft (lenF [l])
theorem n7' {i:Nat}{x:Str}{p p1:Pos} (hg:Gl X "len") (hm:X.mg "len"=none) (hv:PE X (.Name x p1) (tVar i)) (he:starEach [.Name x p1] X.env=(false,eval (.Name x p1) X.env)::starEach [] X.env:=by rfl) (aA:(backTo pos (starEach [] X.env)).any (·.1)=false:=by rfl) :
  ED X B (.Call (.Name "len" p) [.Name x p1] [] pos) (lenN i):=PE.imp (dm' dN' hg hm PySem.boot_len (bY' hv dM' he) (by decide) (by decide) he aA) λU H Q q=>by
 obtain ⟨G,I,Z,d,aj,r,e1,k⟩:=q
 obtain ⟨l,ae,e2,e3⟩:=ac' e1
 obtain ⟨e4,rfl⟩:=am' e3
 obtain ⟨rfl,q,xs,ds,rfl,f1,f2,f3⟩:=eL' e2 r
 cases e4
 exact ⟨_,f1,q,xs,rfl,.inl (SqL.of f2),by rw [f3.length] at k;exact k.now r (Is.int _)⟩
noncomputable def cmpN (neg:Bool) (i:Nat) (g:M D):M D:=mutS i (bnd g λd=>bnd (look i) λl=>lft (eqF neg l d))
theorem pP' {K:PySem.W.Frag}{neg:Bool}{i:Nat}:∀ U H Q,tD K B (cmpN neg i gb) U H Q->tOp (rEqD K neg) (tVar i) (tD K B gb) U H Q:=λU H Q q=>by
 obtain ⟨G,I,Z,d,aj,r,e1,k⟩:=q
 obtain ⟨hm,e1⟩:=b1' e1
 obtain ⟨n,ae,e2,e3⟩:=ac' e1
 obtain ⟨l,ao,e4,e5⟩:=ac' e3
 obtain ⟨e6,rfl⟩:=am' e5
 obtain ⟨p,xs,h1,h2⟩:=bl' hm r
 refine ⟨_,h1,G,I,Z,n,ae,r,e2,λv H1 I1 r1 g1 hn=>?_⟩
 obtain ⟨rfl,p',aW,ds,rfl,f1,f2,f3⟩:=eL' e4 r1
 have hp:p'=p:=by rw [h1] at f1;cases f1;rfl
 subst hp
 obtain ⟨hd,rfl⟩:=aq' e6
 exact ⟨.lst ds,n,Is.lst (RdK.of f2) (f3.mono r1.iH),hn.mono r1.iH,hd,(k.after g1).now r1 (Is.bl _)⟩
theorem kG' {i:Nat}{x:Str}{p1:Pos} (hr:Room kr X.A) (hv:PE X (.Name x p1) (tVar i)) (hb:ED X B b gb):TD X B (.Compare (.Name x p1) [.NotEq] [b] pos) (tst (cmpN true i gb)):=PT.imp (iJ' (kF' (hu100 hr)) hv hb (nomark _)) (gY' pP')
def partD (e:Option Expr) (X:Cx) (B:BB) (g:M (Option Int)):Prop:=PO X e (λU H Q=>∃ G I Z o aj,Rep X.K B G I H U Z/\g Z=some (o,aj)/\∀ H' I',Rep X.K B G I' H' U aj->Grow G I I'->Q o H')
theorem b5':partD none X B (ret none):=λaa s U H Q I h=>nQ' aa s U H Q I (by
 obtain ⟨G,I,Z,o,aj,r,e1,k⟩:=h
 cases e1
 exact k _ _ r (Grow.refl _ _))
def prt (g:M D):M (Option Int):=bnd g λd=>bnd (lft (asI d)) λi=>ret (some i)
theorem a7' (ha:ED X B a ga):partD (some a) X B (prt ga):=λaa s U H Q I h=>nR' ha aa s U H Q I (by
 obtain ⟨G,I,Z,o,aj,r,e1,k⟩:=h
 obtain ⟨d,ae,e2,e3⟩:=ac' e1
 obtain ⟨i,ao,e4,e5⟩:=ac' e3
 cases e5
 obtain ⟨e6,rfl⟩:=am' e4
 have:=iO' e6
 subst this
 exact ⟨G,I,Z,_,_,r,e2,λv H1 I1 r1 g1 hv=>⟨i,al' hv,k _ _ r1 g1⟩⟩)
noncomputable def cutD (ds:List D) (lo hi:Option Int):List D:=(ds.drop (HT.sIx ds.length 0 lo)).take (HT.sIx ds.length ds.length hi - HT.sIx ds.length 0 lo)
theorem IsA.cut {K:PySem.W.Frag}{I:Hp}{ds:List D}{xs:List V} (h:IsA K I ds xs) (lo hi:Option Int):IsA K I (cutD ds lo hi) (cutV xs lo hi):=by
 unfold cutD cutV
 rw [← h.length]
 exact (h.drop _).take _
noncomputable def slF (d:D) (lo hi:Option Int):Option D:=match d with
 | .lst ds=>some (.lst (cutD ds lo hi))
 | .tup ds=>if HT.sIx ds.length 0 lo=0/\HT.sIx ds.length ds.length hi=ds.length then none else some (.tup (cutD ds lo hi))
 | _=>none
noncomputable def sl3 {α:Type} (F:D->Option Int->Option Int->Option α) (g:M D) (gl gh:M (Option Int)):M α:=bnd g λd=>bnd gl λl=>bnd gh λh=>lft (F d l h)
theorem cq' {lo hi:Option Expr}{p2:Pos}{gl gh:M (Option Int)} (ha:ED X B a ga) (hl:partD lo X B gl) (hh:partD hi X B gh):ED X B (.Subscript a (.Slice lo hi none p2) pos) (sl3 slF ga gl gh):=PE.imp (l7' (nT'.or py') ha hl hh) λU H Q q=>by
 obtain ⟨G,I,Z,d,aj,r,e1,k⟩:=q
 obtain ⟨c,ae,e2,e3⟩:=ac' e1
 obtain ⟨l,ao,e4,e5⟩:=ac' e3
 obtain ⟨h,aQ,e6,e7⟩:=ac' e5
 obtain ⟨e8,rfl⟩:=am' e7
 refine ⟨G,I,Z,c,ae,r,e2,λv H1 I1 r1 g1 hv=>⟨G,I1,ae,l,ao,r1,e4,λH2 I2 r2 g2=>⟨G,I2,ao,h,_,r2,e6,λH3 I3 r3 g3=>?_⟩⟩⟩
 have gg:=g1.trans (g2.trans g3)
 have nq:=hv.mono (g2.trans g3).up
 cases c with
 | lst ds =>
  cases e8
  obtain ⟨p,xs,rfl,h3,h4⟩:=ar' nq
  refine .inl ⟨p,xs,rfl,(Same.rdK r3.iH h3).sq,λp' hp=>?_⟩
  exact (k.after gg) _ _ _ (r3.alloc hp _) (r3.growAlloc hp _) (Is.lst (RdK.of ag') ((h4.cut l h).mono (aA' (r3.iFree hp) _)))
 | tup ds =>
  unfold slF at e8
  by_cases hw:HT.sIx ds.length 0 l=0/\HT.sIx ds.length ds.length h=ds.length
  ·simp only [hw,and_self,if_true] at e8;cases e8
  ·simp only [if_neg hw] at e8;cases e8
   obtain ⟨p,xs,rfl,h3,h4⟩:=av' nq
   exact .inr ⟨p,xs,rfl,Same.sqT r3.iH h3,by rw [← h4.length];exact hw,λp' hp=>(k.after gg).tup r3 hp (h4.cut l h)⟩
 | _=>cases e8
noncomputable def minF (ds:List D):Option D:=match ds with
 | [.int i,.int j]=>some (.int (if j < i then j else i))
 | _=>none
theorem hw' {p:Pos}{t:M (List D)} (hc:X.calm=true) (hg:Gl X "min") (hm:X.mg "min"=none) (ha:AD X B (e::es) t) (he:starEach (e::es) X.env=(false,eval e X.env)::starEach es X.env:=by rfl) (aA:(backTo pos (starEach es X.env)).any (·.1)=false:=by rfl) :
  ED X B (.Call (.Name "min" p) (e::es) [] pos) (fn1 minF t):=fj' (kn' hc) (λds d e B G I H U Z xs Q r h k=>by
 unfold minF at e
 split at e
 ·cases e
  obtain ⟨x,y,rfl,hx,hy⟩:=h.two
  exact ⟨_,_,by rw [al' hx,al' hy],k.now r (Is.int _)⟩
 ·cases e) hg hm boot_min ha (by decide) (by decide) he aA
noncomputable def tupF (ds:List D):Option D:=match ds with
 | [.lst xs]=>some (.tup xs)
 | [.tup xs]=>some (.tup xs)
 | _=>none
noncomputable def lstF (ds:List D):Option (List D):=match ds with
 | [.lst xs]=>some xs
 | [.tup xs]=>some xs
 | _=>none
theorem bH' {p:Pos}{t:M (List D)} (hg:Gl X "list") (hm:X.mg "list"=none) (ha:AD X B [e] t) (he:starEach [e] X.env=(false,eval e X.env)::starEach [] X.env:=by rfl) (aA:(backTo pos (starEach [] X.env)).any (·.1)=false:=by rfl) :
  EO X B (.Call (.Name "list" p) [e] [] pos) (fn1 lstF t):=pF' g8' (λds d e B G I H U Z xs Q r h k=>by
 unfold lstF at e
 split at e
 ·cases e
  obtain ⟨x,rfl,hx⟩:=h.one
  obtain ⟨q,zs,rfl,h3,h4⟩:=ar' hx
  exact ⟨q,zs,rfl,.inl ((Same.rdK r.iH h3).sq),λp' hp=>k.new r hp h4⟩
 ·cases e
  obtain ⟨x,rfl,hx⟩:=h.one
  obtain ⟨q,zs,rfl,h3,h4⟩:=av' hx
  exact ⟨q,zs,rfl,.inr (Same.sqT r.iH h3),λp' hp=>k.new r hp h4⟩
 ·cases e) hg hm boot_list ha (by decide) (by decide) he aA
noncomputable def isBF (neg:Bool) (a b:D):Option D:=match a,b with
 | .bl c,.bl d=>some (.bl (if neg then c != d else c == d))
 | _,_=>none
theorem mo':OpR X (compareOp .IsNot) (λx y H Q=>∃ c d,x=.bl c/\y=.bl d/\Q (.bl (c != d)) H):=by
 intro aa s U H x y v u Q I rx ry h
 obtain ⟨c,d,rfl,rfl,q⟩:=h
 cases rx;cases ry
 exact isnot_bool ⟨.bl _,H,I,rfl,q⟩
theorem mp' {K:PySem.W.Frag}:OpD K (λx y H Q=>∃ c d,x=.bl c/\y=.bl d/\Q (.bl (c != d)) H) (isBF true):=λa b d e B G I H U Z x y Q r hx hy k=>by
 unfold isBF at e
 split at e
 ·cases e;exact ⟨_,_,a3' hx,a3' hy,k.now r (Is.bl _)⟩
 ·cases e
theorem mq' (ha:ED X B a ga) (hb:ED X B b gb):TD X B (.Compare a [.IsNot] [b] pos) (tst (op2 (isBF true) ga gb)):=cC' mo' mp' ha hb
end
structure Kd where
 it:Heap->Addr->Addr->Nat->Prop
 sq:Heap->Addr->Array Value->Prop
 nm:String
structure KdOk (k:Kd):Prop where
 itAt:∀ {h h':Heap}{i l:Addr}{n:Nat},k.it h i l n->(∀ o,h.get? i=some o->h'.get? i=some o)->k.it h' i l n
 sqAt:∀ {h h':Heap}{l:Addr}{xs:Array Value},k.sq h l xs->(∀ o,h.get? l=some o->h'.get? l=some o)->k.sq h' l xs
 itLt:∀ {h:Heap}{i l:Addr}{n:Nat},k.it h i l n->i < h.objs.size
 sqLt:∀ {h:Heap}{l:Addr}{xs:Array Value},k.sq h l xs->l < h.objs.size
 itObj:∀ {h:Heap}{i l:Addr}{n:Nat},k.it h i l n->∃ o,h.get? i=some o/\∀ v,o.data≠.cell v
 iter:∀ {prog:Program}{w:World}{A:Around}{E:Value->Shared->Prop}{s:Shared}{l:Addr}{xs:Array Value}{Q:Value->Shared->Prop},k.sq s.heap l xs →
  Q (.ref s.heap.objs.size) { s with heap:=s.heap.push { cls:=.type k.nm,data:=.fields #[.ref l,.int 0 0] } }->wpAny (model prog w) A (pyIter (.ref l)) Q E s
 new:∀ {h:Heap}{l:Addr},k.it (h.push { cls:=.type k.nm,data:=.fields #[.ref l,.int 0 0] }) h.objs.size l 0
 item:∀ {prog:Program}{w:World}{A:Around}{E:Value->Shared->Prop}{s:Shared}{i l:Addr}{n:Nat}{xs:Array Value}{x:Value}{Q:Value->Shared->Prop},k.it s.heap i l n->k.sq s.heap l xs->xs[n]?=some x →
  (∀ h',k.it h' i l (n+1)->Heap.SameBut i s.heap h'->Q x { s with heap:=h' })->wpAny (model prog w) A (nextOf (.ref i)) Q E s
 stop:∀ {prog:Program}{w:World}{A:Around}{E:Value->Shared->Prop}{s:Shared}{i l:Addr}{n:Nat}{xs:Array Value}{Q:Value->Shared->Prop},A.handled=none->k.it s.heap i l n->k.sq s.heap l xs->xs[n]?=none →
  (∀ h' e,Heap.ExtBut i s.heap h'->(∃ o,h'.get? e=some o/\o.cls=.type "StopIteration")->E (.ref e) { s with heap:=h' })->wpAny (model prog w) A (nextOf (.ref i)) Q E s
noncomputable def kdL:Kd:=⟨λh i l n=>h.IsListIter i l n,λh l xs=>h.IsList l xs, "list_iterator"⟩
noncomputable def kdT:Kd:=⟨λh i l n=>h.IsTupleIter i l n,λh l xs=>h.IsTuple l xs, "tuple_iterator"⟩
theorem bP':KdOk kdL where
 itAt:=λh k=>h.at k
 sqAt:=λh k=>h.at k
 itLt:=λh=>by obtain ⟨_,e,_⟩:=h;exact lt_size e
 sqLt:=λh=>by obtain ⟨_,e,_⟩:=h;exact lt_size e
 itObj:=λh=>by obtain ⟨o,e,_,d⟩:=h;exact ⟨o,e,λv z=>by rw [d] at z;cases z⟩
 iter:=λh q=>wpAny_pyIter_list h q
 new:=⟨_,get?_push_size _ rfl,rfl,rfl⟩
 item:=λh1 h2 h3 q=>wpAny_nextOf_list_item h1 h2 h3 q
 stop:=λhh h1 h2 h3 q=>wpAny_nextOf_list_end hh h1 h2 h3 q
section
variable {prog:Program}{w:World}{A:Around}{E:Value->Shared->Prop}{s:Shared}
theorem mr' {α:Type}{Q:α->Shared->Prop} (hh:A.handled=none)
  (k:∀ (g:Heap) (x:Addr),(∀ b o,s.heap.get? b=some o->g.get? b=some o)->(∃ o,g.get? x=some o/\o.cls=.type "StopIteration")->E (.ref x) { s with heap:=g }) :
  wpAny (model prog w) A (stopIteration (α:=α)) Q E s:=by
 unfold stopIteration newExc newTuple
 refine wpAny_bind (wpAny_bind (wpAny_newObj_type (wpAny_bind (wpAny_of_eq (a:=Value.none) (by first | rfl | (simp only [firstArgMember];rfl)) (wpAny_newObj_type ?_ (by size_fits)))) (by size_fits)))
 unfold raiseNew
 refine wpAny_bind (wpAny_handled ?_)
 rw [hh]
 exact wpAny_bind (wpAny_pure (wpAny_throw (k _ _ (λb o e=>get?_push_of_some _ (get?_push_of_some _ e)) ⟨_,get?_push_size _ rfl,rfl⟩)))
theorem hy' {aJ tp:Addr}{i:Nat}{cells:Array Value}{Q:Value->Shared->Prop} (hi:s.heap.IsTupleIter aJ tp i) (hT:s.heap.IsTuple tp cells)
  (one:∀ v,cells[i]?=some v->∀ g:Heap,g.IsTupleIter aJ tp (i+1)->Heap.SameBut aJ s.heap g->Q v { s with heap:=g })
  (non:cells[i]?=none->A.handled=none/\∀ (g:Heap) (x:Addr),Heap.ExtBut aJ s.heap g->(∃ o,g.get? x=some o/\o.cls=.type "StopIteration")->E (.ref x) { s with heap:=g }) :
  wpAny (model prog w) A (nextOf (.ref aJ)) Q E s:=by
 have ty:=hi.typeIs
 obtain ⟨oi,gi,ci,di⟩:=hi
 obtain ⟨ot,gt,ct,nt,dt⟩:=hT
 unfold nextOf
 refine wpAny_bind (wpAny_callSpecial?_slot (name:=ofString "__next__") ty F.slot_tuple_iterator_next (wpAny_call_entry F.slot_tuple_iterator_next ty F.entry_tuple_iterator_next ?_ (F.args_tuple_iterator_next_1 _)))
 refine wpAny_bind (wpAny_of_eq (a:=(Value.ref aJ,[])) rfl ?_)
 refine wpAny_bind (wpAny_field (i:=0) gi di (x:=.ref tp) rfl (wpAny_ite_split (λno=>absurd no Bool.false_ne_true) λ_=>?_))
 refine wpAny_bind (wpAny_field (i:=1) gi di (x:=.int i 0) rfl (wpAny_bind (wpAny_seqItems gt dt ?_)))
 dsimp only
 rw [toNat_natCast]
 cases hv:cells[i]? with
 | some v =>
  refine wpAny_bind (wpAny_setField gi di (by simp) (wpAny_pure ⟨v,rfl,wpAny_pure (one v hv _ ?_ (Heap.SameBut.update ..))⟩))
  have low:=data_mapFields di
  exact ⟨_,get?_update_self _ gi (Obj.isFreed_of_fields (low _)),(Obj.cls_mapFields ..).trans ci,by rw [low];simp [rawInt]⟩
 | none =>
  obtain ⟨hh,k⟩:=non hv
  refine wpAny_bind (wpAny_rule (wpAny_bind (wpAny_setField gi di (by simp) (mr' hh λg x keep is=>k g x (λb o ne e=>keep b o ((Heap.SameBut.update ..).extBut b o ne e)) is))))
end
theorem kH':KdOk kdT where
 itAt:=λh k=>by obtain ⟨o,e,r⟩:=h;exact ⟨o,k o e,r⟩
 sqAt:=λh k=>by obtain ⟨o,e,r⟩:=h;exact ⟨o,k o e,r⟩
 itLt:=λh=>by obtain ⟨_,e,_⟩:=h;exact lt_size e
 sqLt:=λh=>by obtain ⟨_,e,_⟩:=h;exact lt_size e
 itObj:=λh=>by obtain ⟨o,e,_,d⟩:=h;exact ⟨o,e,λv z=>by rw [d] at z;cases z⟩
 iter:=λh q=>wpAny_pyIter_tuple h q
 new:=⟨_,get?_push_size _ rfl,rfl,rfl⟩
 item:=λh1 h2 h3 q=>hy' h1 h2 (λv e g=>by rw [h3] at e;cases e;exact q g) λe=>by rw [h3] at e;cases e
 stop:=λhh h1 h2 h3 q=>hy' h1 h2 (λv e=>by rw [h3] at e;cases e) λ_=>⟨hh,q⟩
theorem eM' {X:Cx}{aa:List (Addr×Obj)}{U:L2.St}{H:Hp}{s:Shared}{h':Heap}{t':Nat}{ch:List Addr}{T:Addr}{o:HO} (I:Inv X aa U H s) (bn:∀ b∈ch,FpOk X aa H b) (k:∀ b u,b∉ch->s.heap.get? b=some u->h'.get? b=some u)
  (hT:s.heap.objs.size<=T) (new:ObjOk X.prog X.w (upd H T o) h' T o):Inv X aa U (upd H T o) { s with heap:=h',toks:=t' }:=by
 have hf:=I.hok.fresh hT
 have ne:∀ {b u},H b=some u->b≠T:=λ{b u} e=>aD' e hf
 have cJ:∀ {b u},H b=some u->b∉ch:=λ{b u} e z=>by have:=(bn b z).1;rw [e] at this;cases this
 refine I.step (g':=s.gens) (d':=s.drawn) (ch:=ch) (λb hb=>⟨(bn b hb).2.2.2.1,(bn b hb).2.1,(bn b hb).2.2.2.2.1,(bn b hb).2.2.2.2.2⟩) (λb u _ _ hc e _=>k b u hc e) (λb u _ _ hc e _=>⟨u.slots,k b u hc e⟩) (λb u hc e n=>?_)
  (λb u hc e=>⟨u,k b u hc e⟩) (λb xs e=>by rw [ae' (ne e)];exact e) (λb u v e=>by rw [ae' (ne e)];exact e) (λb q e=>by rw [ae' (ne e)];exact e) (λm hm=>?_) (λb u e=>?_) I.bare
 ·have nb:b≠T:=λz=>by have:=lt_size e;rw [z] at this;exact absurd (lt_of_lt_of_le this hT) (lt_irrefl _)
  rw [ae' nb];exact n
 ·obtain ⟨ob,es,ep,ho,r⟩:=hm
  exact ⟨ob,es,ep,k _ ob (λz=>(bn _ z).2.1 rfl) ho,r⟩
 ·by_cases hb:b=T
  ·subst hb;rw [ag'] at e;cases e;exact new
  ·rw [ae' hb] at e
   refine (I.hok b u e).stay (λc v hc q=>k c v ?_ q) (λc q=>by rw [ae' (ne q)];exact q) (λc xs q=>by rw [ae' (ne q)];exact q) λc o u q=>by rw [ae' (ne q)];exact q
   rcases hc with z | z
   ·rw [z];exact cJ e
   ·exact cJ z
theorem bI' {X:Cx}{aa:List (Addr×Obj)}{U:L2.St}{H:Hp}{s:Shared}{h':Heap}{t':Nat}{ch:List Addr} (I:Inv X aa U H s) (bn:∀ b∈ch,FpOk X aa H b) (k:∀ b u,b∉ch->s.heap.get? b=some u->h'.get? b=some u):Inv X aa U H { s with heap:=h',toks:=t' }:=by
 have cJ:∀ {b u},H b=some u->b∉ch:=λ{b u} e z=>by have:=(bn b z).1;rw [e] at this;cases this
 refine I.step (g':=s.gens) (d':=s.drawn) (ch:=ch) (λb hb=>⟨(bn b hb).2.2.2.1,(bn b hb).2.1,(bn b hb).2.2.2.2.1,(bn b hb).2.2.2.2.2⟩) (λb u _ _ hc e _=>k b u hc e) (λb u _ _ hc e _=>⟨u.slots,k b u hc e⟩) (λb u hc e n=>n)
  (λb u hc e=>⟨u,k b u hc e⟩) (λb xs e=>e) (λb u v e=>e) (λ_ _ e=>e) (λm hm=>?_) (λb u e=>?_) I.bare
 ·obtain ⟨ob,es,ep,ho,r⟩:=hm
  exact ⟨ob,es,ep,k _ ob (λz=>(bn _ z).2.1 rfl) ho,r⟩
 ·refine (I.hok b u e).stay (λc v hc q=>k c v ?_ q) (λc q=>q) (λc xs q=>q) λc o u q=>q
  rcases hc with z | z
  ·rw [z];exact cJ e
  ·exact cJ z
section
variable {prog:Program}{w:World}{A:Around}{E:Value->Shared->Prop}{s:Shared}{k:Kd}
theorem dt' (ok:KdOk k){z ta aF p q u v:Addr}{m n:Nat}{xs ys:Array Value}{c0 c1:Value}{Q:PySem.Fin->Shared->Prop} (D:ZipApart z ta aF p q u v) (vI:IsZip s.heap z ta aF .none) (Ta:IsPair s.heap ta (.ref p) (.ref q))
  (To:IsPair s.heap aF c0 c1) (P:k.it s.heap p u m) (P':k.it s.heap q v n) (vH:k.sq s.heap u xs) (U':k.sq s.heap v ys)
  (dB:∀ x y,xs[m]?=some x->ys[n]?=some y->∀ g:Heap,g.objs.size=s.heap.objs.size+1/\IsPair g s.heap.objs.size x y->IsZip g z ta aF (rawInt s.heap.objs.size)->IsPair g aF x y->k.it g p u (m+1)/\k.it g q v (n+1) →
   (∀ c o,(c≠z/\c≠aF/\c≠p/\c≠q)->s.heap.get? c=some o->g.get? c=some o)->Q (.done (.ret (.ref s.heap.objs.size))) { s with heap:=g })
  (dU:(xs[m]?=none\/ys[n]?=none)->A.handled=none/\∀ (g:Heap) (x:Addr),(∀ c o,(c≠z/\c≠aF/\c≠p/\c≠q)->s.heap.get? c=some o->g.get? c=some o)->(∃ o,g.get? x=some o/\o.cls=.type "StopIteration")->E (.ref x) { s with heap:=g }) :
  wpAny (model prog w) A (Builtin.«zip.__next__» ⟨[.ref z],[]⟩) Q E s:=by
 refine wpAny_bind (wpAny_of_eq (a:=(Value.ref z,[])) rfl (wpAny_bind (wpAny_field (i:=2) vI rfl (x:=.bool false) rfl (wpAny_bind (wpAny_field (i:=3) vI rfl (x:=.ref ta) rfl (wpAny_bind (wpAny_seqItems Ta rfl ?_)))))))
 refine wpAny_bind (m:=ownedTupleIsFree (.ref z)) (wpAny_bind (wpAny_field (i:=0) vI rfl (x:=.none) rfl (wpAny_pure ?_)))
 rw [if_pos rfl]
 refine wpAny_bind (wpAny_rule (wpAny_bind (wpAny_field (i:=4) vI rfl (x:=.ref aF) rfl (wpAny_bind (wpAny_setField_rec vI (by simp) λg1 Z1 b1=>?_)))))
 replace Z1:IsZip g1 z ta aF .ellipsis:=Z1
 have j5:∀ (g:Heap) (x:Addr),IsZip g z ta aF .ellipsis->(∃ o,g.get? x=some o/\o.cls=.type "StopIteration")->(∀ g':Heap,Heap.SameBut z g g'->(∃ o,g'.get? x=some o/\o.cls=.type "StopIteration")->E (.ref x) { s with heap:=g' }) →
   wpAny (model prog w) A (setField (.ref z) 0 .none) (λ_ s'=>E (.ref x) s') E { s with heap:=g }:=λg x Zg is kk=>by
  obtain ⟨o,e1,e2⟩:=is
  refine wpAny_setField_rec Zg (by simp) λg' _ b'=>kk g' b' ⟨o,b'.extBut _ _ (λsame=>?_) e1,e2⟩
  rw [same,Zg] at e1
  cases e1
  simp at e2
 have f1:∀ c o,c≠z->s.heap.get? c=some o->g1.get? c=some o:=λc o ne e=>b1.extBut _ _ ne e
 refine wpAny_bind ?_
 rw [List.zipIdx_cons,List.zipIdx_cons,List.zipIdx_nil,forIn_cons]
 refine wpAny_bind (wpAny_bind (wpAny_onRaise (wpAny_bind (m:=nextOf (.ref p)) ?_)))
 have P1:=ok.itAt P λo e=>f1 _ o D.i1z e
 have U1:=ok.sqAt vH λo e=>f1 _ o D.l1z e
 cases hx:xs[m]? with
 | none =>
  obtain ⟨hh,ak⟩:=dU (.inl hx)
  exact ok.stop hh P1 U1 hx λg2 x b2 is=>j5 g2 x (b2 _ _ D.i1z.symm Z1) is λg' b' j6=>ak g' x (λc o ne e=>b'.extBut _ _ ne.1 (b2 _ _ ne.2.2.1 (f1 c o ne.1 e))) j6
 | some x =>
  refine ok.item P1 U1 hx λg2 P2 b2=>wpAny_pure ?_
  have nu:IsPair g2 aF c0 c1:=b2.extBut _ _ D.TOi1 (f1 _ _ D.TOz To)
  refine wpAny_bind (wpAny_seqItems nu rfl (wpAny_bind (wpAny_updateSeq_pair nu λg3 j7 b3=>wpAny_bind (wpAny_letGo (wpAny_pure ?_)))))
  replace j7:IsPair g3 aF x c1:=j7
  have f3:∀ c o,c≠aF->c≠p->g1.get? c=some o->g3.get? c=some o:=λc o n1 n2 e=>b3.extBut _ _ n1 (b2.extBut _ _ n2 e)
  have Z3:IsZip g3 z ta aF .ellipsis:=f3 _ _ D.TOz.symm D.i1z.symm Z1
  dsimp only
  rw [forIn_cons]
  refine wpAny_bind (wpAny_bind (wpAny_onRaise (wpAny_bind (m:=nextOf (.ref q)) ?_)))
  have Q3:=ok.itAt P' λo e=>f3 _ o D.TOi2.symm D.i12.symm (f1 _ o D.i2z e)
  have V3:=ok.sqAt U' λo e=>f3 _ o D.l2TO D.l2i1 (f1 _ o D.l2z e)
  cases hy:ys[n]? with
  | none =>
   obtain ⟨hh,ak⟩:=dU (.inr hy)
   exact ok.stop hh Q3 V3 hy λg4 x b4 is=>j5 g4 x (b4 _ _ D.i2z.symm Z3) is λg' b' j6=>ak g' x (λc o ne e=>b'.extBut _ _ ne.1 (b4 _ _ ne.2.2.2 (f3 c o ne.2.1 ne.2.2.1 (f1 c o ne.1 e)))) j6
  | some y =>
   refine ok.item Q3 V3 hy λg4 Q4 b4=>wpAny_pure ?_
   have nv:IsPair g4 aF x c1:=b4.extBut _ _ D.TOi2 j7
   refine wpAny_bind (wpAny_seqItems nv rfl (wpAny_bind (wpAny_updateSeq_pair nv λg5 iC b5=>wpAny_bind (wpAny_letGo (wpAny_pure ?_)))))
   replace iC:IsPair g5 aF x y:=iC
   have f5:∀ c o,c≠aF->c≠q->g3.get? c=some o->g5.get? c=some o:=λc o n1 n2 e=>b5.extBut _ _ n1 (b4.extBut _ _ n2 e)
   dsimp only
   rw [forIn_nil]
   refine wpAny_pure (wpAny_bind (wpAny_seqItems iC rfl (wpAny_bind (wpAny_newTuple ?_))))
   have same:g5.objs.size=s.heap.objs.size:=b5.1.trans (b4.1.trans (b3.1.trans (b2.1.trans b1.1)))
   have Z5:IsZip g5 z ta aF .ellipsis:=f5 _ _ D.TOz.symm D.i2z.symm Z3
   have nw:g5.objs.size≠z:=ne_of_gt (lt_size Z5)
   have Z6:IsZip (g5.push { cls:=.type "tuple", data:=.seq #[x,y] }) z ta aF .ellipsis:=get?_push_of_some _ Z5
   refine wpAny_bind (m:=Builtin.SmallTypes.ownedTupleHandOut (.ref z) (.ref g5.objs.size)) (wpAny_bind (wpAny_setField_rec Z6 (by simp) λg7 Z7 b7=>?_))
   refine wpAny_setField_rec Z7 (by simp) λg8 Z8 b8=>wpAny_pure ?_
   replace Z8:IsZip g8 z ta aF (rawInt g5.objs.size):=Z8
   have f8:∀ c o,c≠z->g5.get? c=some o->g8.get? c=some o:=λc o ne e=>b8.extBut _ _ ne (b7.extBut _ _ ne (get?_push_of_some _ e))
   have T8:IsPair g8 g5.objs.size x y:=b8.extBut _ _ nw (b7.extBut _ _ nw (get?_push_size _ rfl))
   have gI:g8.objs.size=g5.objs.size+1:=b8.1.trans (b7.1.trans (size_push ..))
   show Q (.done (.ret (.ref g5.objs.size))) { s with heap:=g8 }
   rw [same] at Z8 T8 gI ⊢
   exact dB x y hx hy g8 ⟨gI,T8⟩ Z8 (f8 _ _ D.TOz iC) ⟨ok.itAt P2 λo e=>f8 _ o D.i1z (f5 _ o D.TOi1.symm D.i12 (b3.extBut _ _ D.TOi1.symm e)),ok.itAt Q4 λo e=>f8 _ o D.i2z (b5.extBut _ _ D.TOi2.symm e)⟩
    λc o ne e=>f8 c o ne.1 (f5 c o ne.2.1 ne.2.2.2 (f3 c o ne.2.1 ne.2.2.1 (f1 c o ne.1 e)))
noncomputable abbrev zk1 (k:Kd) (h:Heap) (l1:Addr):Heap:=h.push { cls:=.type k.nm,data:=.fields #[.ref l1,.int 0 0] }
noncomputable abbrev zk2 (k:Kd) (h:Heap) (l1 l2:Addr):Heap:=(zk1 k h l1).push { cls:=.type k.nm,data:=.fields #[.ref l2,.int 0 0] }
noncomputable abbrev zk3 (k:Kd) (h:Heap) (l1 l2:Addr):Heap:=(zk2 k h l1 l2).push { cls:=.type "tuple", data:=.seq #[.ref h.objs.size,.ref (zk1 k h l1).objs.size] }
noncomputable abbrev zk4 (k:Kd) (h:Heap) (l1 l2:Addr):Heap:=(zk3 k h l1 l2).push { cls:=.type "tuple", data:=.seq #[.none,.none] }
noncomputable abbrev zk5 (k:Kd) (h:Heap) (l1 l2:Addr):Heap:=(zk4 k h l1 l2).push { cls:=.type "zip", data:=.fields #[.none,.bool false,.bool false,.ref (zk2 k h l1 l2).objs.size,.ref (zk3 k h l1 l2).objs.size] }
theorem jG' (ok:KdOk k) (l1 l2:Addr) (xs ys:Array Value) :
  Meets (Builtin.«zip.__new__» ⟨[.type "zip", .ref l1,.ref l2],[]⟩) (λ_ R s=>k.sq s.heap l1 xs/\k.sq s.heap l2 ys ∧
   ∀ h',IsZip h' (s.heap.objs.size+4) (s.heap.objs.size+2) (s.heap.objs.size+3) .none->IsPair h' (s.heap.objs.size+2) (.ref s.heap.objs.size) (.ref (s.heap.objs.size+1)) →
    IsPair h' (s.heap.objs.size+3) .none .none->k.it h' s.heap.objs.size l1 0->k.it h' (s.heap.objs.size+1) l2 0->(∀ c o,s.heap.get? c=some o->h'.get? c=some o)->R (.ok (.ret (.ref (s.heap.objs.size+4)))) { s with heap:=h' }) :=
 .of_wp λprog w A R s h=>by
  obtain ⟨hp,gn,dw,tk,os⟩:=s
  obtain ⟨dM,dR,h⟩:=h
  have gJ:=sub_zip
  have qU:k.sq (Shared.heap ⟨hp,gn,dw,tk,os⟩) l1 xs:=dM
  have qV:k.sq (Shared.heap ⟨zk1 k hp l1,gn,dw,tk,os⟩) l2 ys:=ok.sqAt dR λo e=>get?_push_of_some _ e
  wp_walk using ok.iter qU,ok.iter qV
  refine ⟨_,rfl,?_⟩
  have z1:(zk1 k hp l1).objs.size=hp.objs.size+1:=size_push ..
  have z2:(zk2 k hp l1 l2).objs.size=hp.objs.size+2:=by rw [size_push,z1]
  have z3:(zk3 k hp l1 l2).objs.size=hp.objs.size+3:=by rw [size_push,z2]
  have z4:(zk4 k hp l1 l2).objs.size=hp.objs.size+4:=by rw [size_push,z3]
  have g5:(zk5 k hp l1 l2).get? (zk4 k hp l1 l2).objs.size=some { cls:=.type "zip", data:=.fields #[.none,.bool false,.bool false,.ref (zk2 k hp l1 l2).objs.size,.ref (zk3 k hp l1 l2).objs.size] }:=get?_push_size _ rfl
  have g4:(zk5 k hp l1 l2).get? (zk3 k hp l1 l2).objs.size=some { cls:=.type "tuple", data:=.seq #[.none,.none] }:=get?_push_of_some _ (get?_push_size _ rfl)
  have g3:(zk5 k hp l1 l2).get? (zk2 k hp l1 l2).objs.size=some { cls:=.type "tuple", data:=.seq #[.ref hp.objs.size,.ref (zk1 k hp l1).objs.size] }:=get?_push_of_some _ (get?_push_of_some _ (get?_push_size _ rfl))
  have n2:k.it (zk2 k hp l1 l2) (zk1 k hp l1).objs.size l2 0:=ok.new
  have n1:k.it (zk1 k hp l1) hp.objs.size l1 0:=ok.new
  have i2:k.it (zk5 k hp l1 l2) (zk1 k hp l1).objs.size l2 0:=ok.itAt n2 λo e=>get?_push_of_some _ (get?_push_of_some _ (get?_push_of_some _ e))
  have i1:k.it (zk5 k hp l1 l2) hp.objs.size l1 0:=ok.itAt n1 λo e=>get?_push_of_some _ (get?_push_of_some _ (get?_push_of_some _ (get?_push_of_some _ e)))
  show R (.ok (.ret (.ref (zk4 k hp l1 l2).objs.size))) { heap:=zk5 k hp l1 l2,gens:=gn,drawn:=dw,toks:=tk,os:=os }
  rw [z2,z3,z4] at g5
  rw [z1,z2] at g3
  rw [z3] at g4
  rw [z1] at i2
  rw [z4]
  exact h (zk5 k hp l1 l2) g5 g3 g4 i1 i2 λc o e=>get?_push_of_some _ (get?_push_of_some _ (get?_push_of_some _ (get?_push_of_some _ (get?_push_of_some _ e))))
theorem gp' (ok:KdOk k){l1 l2:Addr}{xs ys:Array Value}{Q:Value->Shared->Prop} (dM:k.sq s.heap l1 xs) (dR:k.sq s.heap l2 ys)
  (made:∀ n h',n=s.heap.objs.size->IsZip h' (n+4) (n+2) (n+3) .none->IsPair h' (n+2) (.ref n) (.ref (n+1))->IsPair h' (n+3) .none .none->k.it h' n l1 0->k.it h' (n+1) l2 0->(∀ c o,s.heap.get? c=some o->h'.get? c=some o)->Q (.ref (n+4)) { s with heap:=h' }) :
  wpAny (model prog w) A (call (type "zip") ([l1,l2].map Value.ref)) Q E s :=
 callType_new F.called_zip (by decide) (F.typeCall_zip_2 _ _) (F.newCall_zip_2 _ _) (λobj=>F.args_object_init_3 obj _ _) F.entry_zip_new (jG' ok l1 l2 xs ys) ⟨dM,dR,λh' b1 b2 b3 b4 b5 b6=>⟨⟨_,b1,rfl⟩,made _ h' rfl b1 b2 b3 b4 b5 b6⟩⟩
end
section
variable {X:Cx}{k:Kd}
noncomputable def Itz (rd:Hp->Addr->List V->Prop) (l1 l2:Addr):It :=
 ⟨λi H=>∃ xs ys x y,rd H l1 xs/\rd H l2 ys/\xs[i]?=some x/\ys[i]?=some y,
  λi H v H'=>∃ p x y,H p=none/\v=.ref p/\H'=upd H p (.tup [x,y])/\(∀ xs,rd H l1 xs->xs[i]?=some x)/\(∀ ys,rd H l2 ys->ys[i]?=some y),
  λi H=>∃ xs ys,rd H l1 xs/\rd H l2 ys/\(xs.length<=i\/ys.length<=i)⟩
structure KdRd (K:PySem.W.Frag) (k:Kd) (rd:Hp->Addr->List V->Prop):Prop where
 of:∀ {X:Cx}{aa:List (Addr×Obj)}{U:L2.St}{H:Hp}{s:Shared}{a:Addr}{xs:List V},X.K=K->Inv X aa U H s->rd H a xs->∃ af:List Value,Vals xs af/\k.sq s.heap a af.toArray
 inj:∀ {X:Cx}{aa:List (Addr×Obj)}{U:L2.St}{H:Hp}{s:Shared}{a:Addr}{xs ys:List V},X.K=K->Inv X aa U H s->rd H a xs->rd H a ys->xs=ys
theorem nC' (K:PySem.W.Frag):KdRd K kdL (λH a xs=>SqL K H a xs) where
 of:=λe I h=>by subst e;obtain ⟨af,r,t,_⟩:=I.list h;exact ⟨af,r,t.isList⟩
 inj:=λe I h h'=>by subst e;exact I.list_inj h h'
theorem nD' (K:PySem.W.Frag):KdRd K kdT (λH a xs=>SqT K H a xs) where
 of:=λe I h=>by subst e;obtain ⟨af,r,t,_⟩:=I.tuple h;exact ⟨af,r,t⟩
 inj:=λe I h h'=>by subst e;exact I.tuple_inj h h'
theorem ms' {P:Program}{w:World}{K:PySem.W.Frag}{br:List Expr}{x1:Nat}{tp:Pos}{rd:Hp->Addr->List V->Prop} (ok:KdOk k) (kr:KdRd K k rd){z TI TO i1 i2 l1 l2:Addr} (D:ZipApart z TI TO i1 i2 l1 l2) :
  Turn P w K (.Tuple br x1 tp) (Itz rd l1 l2) [z,TI,TO,i1,i2] z (λi h=>IsZip h z TI TO .none/\IsPair h TI (.ref i1) (.ref i2)/\(∃ a b,IsPair h TO a b)/\k.it h i1 l1 i/\k.it h i2 l2 i) where
 mem:=by simp
 obj:=λi h st b hb=>by
  obtain ⟨a1,a2,⟨x,y,a3⟩,a4,a5⟩:=st
  rw [mem_cons,mem_cons,mem_cons,mem_cons,mem_singleton] at hb
  rcases hb with rfl | rfl | rfl | rfl | rfl
  ·exact ⟨_,a1,λv q=>by cases (show fields _=Data.cell v from q)⟩
  ·exact ⟨_,a2,λv q=>by cases (show seq _ _=Data.cell v from q)⟩
  ·exact ⟨_,a3,λv q=>by cases (show seq _ _=Data.cell v from q)⟩
  ·exact ok.itObj a4
  ·exact ok.itObj a5
 keep:=λi h h' st kk=>by
  obtain ⟨a1,a2,⟨x,y,a3⟩,a4,a5⟩:=st
  exact ⟨kk _ (by simp) _ a1,kk _ (by simp) _ a2,⟨x,y,kk _ (by simp) _ a3⟩,ok.itAt a4 λo e=>kk _ (by simp) o e,ok.itAt a5 λo e=>kk _ (by simp) o e⟩
 item:=by
  intro X hP hw hK hc i aa s U H E I hf st hg
  subst hP hw
  obtain ⟨a1,a2,⟨av,bv,a3⟩,a4,a5⟩:=st
  obtain ⟨xs,ys,x,y,g1,g2,g3,g4⟩:=hg
  obtain ⟨af,r1,t1⟩:=kr.of hK I g1
  obtain ⟨aX,r2,t2⟩:=kr.of hK I g2
  obtain ⟨u1,e1,e2⟩:=r1.get g3
  obtain ⟨u2,e3,e4⟩:=r2.get g4
  have hT:s.TypeIs (.ref z) "zip":=⟨_,a1,rfl⟩
  unfold pyNext
  refine wpAny_bind (wpAny_attempt (wpAny_callSpecial?_slot (name:=ofString "__next__") hT F.slot_zip_next (wpAny_call_entry F.slot_zip_next hT F.entry_zip_next (dt' ok D a1 a2 a3 a4 a5 t1 t2 ?_ ?_) (F.args_zip_next_1 _))))
  case refine_2 =>
   intro non
   have f1:af.toArray[i]?=some u1:=by simpa using e1
   have f2:aX.toArray[i]?=some u2:=by simpa using e3
   rw [f1,f2] at non
   rcases non with non | non<;>cases non
  intro y1 y2 k1 k2 h' ⟨_,b5⟩ b1 b2 ⟨b3,b4⟩ b7
  have f1:af.toArray[i]?=some u1:=by simpa using e1
  have f2:aX.toArray[i]?=some u2:=by simpa using e3
  rw [f1] at k1;cases k1
  rw [f2] at k2;cases k2
  refine ⟨_,rfl,wpAny_pure ⟨.ref s.heap.objs.size,rfl,wpAny_letOwnedTupleGo_zip b1 λh2 c1 c2=>?_⟩⟩
  have lt:∀ {b o},s.heap.get? b=some o->b≠s.heap.objs.size:=λ{b o} e=>ne_of_lt (lt_size e)
  have cY:=lt a1
  have ny:=lt a2
  have nA:=lt a3
  have kk:∀ b u,b∉[z,TI,TO,i1,i2]->s.heap.get? b=some u->h2.get? b=some u:=λb u hb e=>by
   simp only [mem_cons,not_mem_nil,or_false,not_or] at hb
   exact c2.extBut _ _ hb.1 (b7 b u ⟨hb.1,hb.2.2.1,hb.2.2.2.1,hb.2.2.2.2⟩ e)
  have pT:IsPair h2 s.heap.objs.size u1 u2:=c2.extBut _ _ (Ne.symm cY) b5
  have I1:Inv X aa U (upd H s.heap.objs.size (.tup [x,y])) { s with heap:=h2 }:=eM' (t':=s.toks) I hf kk (le_refl _) ⟨by show 2<=sizeLine;rw [sizeLine_eq];decide,[u1,u2],.cons e2 (.cons e4 .nil),⟨_,pT,rfl,_,rfl⟩⟩
  have fr:=I.hok.fresh (le_refl s.heap.objs.size)
  refine ⟨.ref s.heap.objs.size,_,I1,rfl,⟨s.heap.objs.size,x,y,fr,rfl,rfl,λzs hz=>by rw [kr.inj hK I hz g1];exact g3,λzs hz=>by rw [kr.inj hK I hz g2];exact g4⟩,⟨c1,c2.extBut _ _ D.TIz (b7 _ _ ⟨D.TIz,D.TITO,D.TIi1,D.TIi2⟩ a2),⟨u1,u2,c2.extBut _ _ D.TOz b2⟩,ok.itAt b3 λo e=>c2.extBut _ _ D.i1z e,ok.itAt b4 λo e=>c2.extBut _ _ D.i2z e⟩,λb hb=>?_⟩
  have j8:=(hf b hb).1
  have nb:b≠s.heap.objs.size:=by
   rw [mem_cons,mem_cons,mem_cons,mem_cons,mem_singleton] at hb
   rcases hb with rfl | rfl | rfl | rfl | rfl
   ·exact cY
   ·exact ny
   ·exact nA
   ·exact ne_of_lt (ok.itLt a4)
   ·exact ne_of_lt (ok.itLt a5)
  rw [ae' nb];exact j8
 done:=by
  intro X hP hw hK hc i aa s U H E I hf st hg
  subst hP hw
  obtain ⟨a1,a2,⟨av,bv,a3⟩,a4,a5⟩:=st
  obtain ⟨xs,ys,g1,g2,g3⟩:=hg
  obtain ⟨af,r1,t1⟩:=kr.of hK I g1
  obtain ⟨aX,r2,t2⟩:=kr.of hK I g2
  have dM:=r1.length
  have dR:=r2.length
  have hT:s.TypeIs (.ref z) "zip":=⟨_,a1,rfl⟩
  unfold pyNext
  refine wpAny_bind (wpAny_attempt (wpAny_callSpecial?_slot (name:=ofString "__next__") hT F.slot_zip_next (wpAny_call_entry F.slot_zip_next hT F.entry_zip_next (dt' ok D a1 a2 a3 a4 a5 t1 t2 ?_ λ_=>⟨I.ok.hd hc,λh' e hk he=>?_⟩) (F.args_zip_next_1 _))))
  ·intro y1 y2 k1 k2
   have m1:=(Array.getElem?_eq_some_iff.mp k1).1
   have m2:=(Array.getElem?_eq_some_iff.mp k2).1
   simp at m1 m2
   omega
  ·obtain ⟨o,ho,gK⟩:=he
   refine wpAny_bind (wpAny_isInstance (T := "StopIteration") (b:=true) ⟨o,ho,gK⟩ isSubtype_stop ?_)
   refine wpAny_pure ⟨rfl,bI' (t':=s.toks) I hf λb u hb e=>?_⟩
   simp only [mem_cons,not_mem_nil,or_false,not_or] at hb
   exact hk b u ⟨hb.1,hb.2.2.1,hb.2.2.2.1,hb.2.2.2.2⟩ e
 self:=λ_ _ _ _ _ st h=>wpAny_pyIter_zip st.1 h
end
section
variable {X:Cx}{B:BB}{a b c e:Expr}{es:List Expr}{pos:Pos}{ga gb gc:M D}
noncomputable def iZip (K:PySem.W.Frag) (ta:TA):TI:=λU H R=>ta U H λvs H1=>(∃ l1 l2 xs ys,vs=[.ref l1,.ref l2]/\SqL K H1 l1 xs/\SqL K H1 l2 ys/\R (Itz (λH a xs=>SqL K H a xs) l1 l2) H1)\/(∃ l1 l2 xs ys,vs=[.ref l1,.ref l2]/\SqT K H1 l1 xs/\SqT K H1 l2 ys/\R (Itz (λH a xs=>SqT K H a xs) l1 l2) H1)
theorem kI' {k:Kd}{rd:Hp->Addr->List V->Prop} (ok:KdOk k) (kr:KdRd X.K k rd){br:List Expr}{x1:Nat}{tp:Pos}{aa:List (Addr×Obj)}{U:L2.St}{H:Hp}{s:Shared}{R:It->Hp->Prop}{l1 l2:Addr}{xs ys:List V} (I:Inv X aa U H s) (h1:rd H l1 xs) (h2:rd H l2 ys) (q:R (Itz rd l1 l2) H) :
  wpAny (model X.prog X.w) X.A (call (.type "zip") [.ref l1,.ref l2]) (λv s1=>wpAny (model X.prog X.w) X.A (pyIter v) (PIE X aa U (.Tuple br x1 tp) R) X.xe s1) X.xe s:=by
 obtain ⟨af,r1,t1⟩:=kr.of rfl I h1
 obtain ⟨aX,r2,t2⟩:=kr.of rfl I h2
 refine gp' ok t1 t2 λn h' hn a1 a2 a3 a4 a5 a6=>wpAny_pyIter_zip a1 ?_
 subst hn
 have I1:Inv X aa U H { s with heap:=h' }:=I.kept (t':=s.toks) a6
 refine ⟨s.heap.objs.size+4,[s.heap.objs.size+4,s.heap.objs.size+2,s.heap.objs.size+3,s.heap.objs.size,s.heap.objs.size+1],_,_,H,rfl,I1,ms' ok kr (zipApart_new (ok.sqLt t1) (ok.sqLt t2)),⟨a1,a2,⟨_,_,a3⟩,a4,a5⟩,λb hb=>?_,q⟩
 rw [mem_cons,mem_cons,mem_cons,mem_cons,mem_singleton] at hb
 have up:∀ n,FpOk X aa H (s.heap.objs.size+n):=λn=>I.fpOk (le_add_right _ _) (I.hok.fresh (le_add_right _ _))
 rcases hb with rfl | rfl | rfl | rfl | rfl
 ·exact up 4
 ·exact up 2
 ·exact up 3
 ·exact up 0
 ·exact up 1
theorem pQ' {br:List Expr}{x1:Nat}{tp p:Pos}{ta:TA} (hg:Gl X "zip") (hm:X.mg "zip"=none) (ha:PA X [a,b] ta) (hs:starEach [a,b] X.env=[(false,eval a X.env),(false,eval b X.env)]:=by rfl) (bA:starEach [b] X.env=[(false,eval b X.env)]:=by rfl) :
  PI X (.Tuple br x1 tp) (.Call (.Name "zip" p) [a,b] [] pos) (iZip X.K ta):=by
 intro aa s U H R I h
 refine Call_ (aW' I hg hm boot_zip (PyProof.Rows.callWith_type1 (thn (ha pos aa s U H _ I h) λus s1 ⟨vs,H1,I1,r1,q1⟩=>?_) (by rw [hs,bA]) (by rw [bA];rfl)))
 rcases q1 with ⟨l1,l2,xs,ys,e,h1,h2,q⟩ | ⟨l1,l2,xs,ys,e,h1,h2,q⟩
 ·subst e
  obtain ⟨u1,u2,rfl,e1,e2⟩:=r1.two
  cases e1;cases e2
  exact kI' bP' (nC' _) I1 h1 h2 q
 ·subst e
  obtain ⟨u1,u2,rfl,e1,e2⟩:=r1.two
  cases e1;cases e2
  exact kI' kH' (nD' _) I1 h1 h2 q
noncomputable def pairsD (xs ys:List D):List D:=(xs.zip ys).map λp=>.tup [p.1,p.2]
noncomputable def zipI (ds:List D):Option (List D):=match ds with
 | [.lst xs,.lst ys]=>some (pairsD xs ys)
 | [.tup xs,.tup ys]=>some (pairsD xs ys)
 | _=>none
theorem fp' {K:PySem.W.Frag}{I:Hp}{rd:Hp->Addr->List V->Prop}{l1 l2:Addr}{xs ys:List V}{ds es:List D} (mono:∀ {H a xs},Same I H->rd I a xs->rd H a xs) (inj:∀ {H},Same I H->(∀ zs,rd H l1 zs->zs=xs)/\(∀ zs,rd H l2 zs->zs=ys)\/True) (h1:rd I l1 xs) (h2:rd I l2 ys) (i1:IsA K I ds xs) (i2:IsA K I es ys):Yields K I (pairsD ds es) (Itz rd l1 l2):=λi H s=>by
 have L1:=i1.length
 have L2:=i2.length
 refine ⟨λd hd=>?_,λhi=>⟨xs,ys,mono s h1,mono s h2,?_⟩⟩
 ·unfold pairsD at hd
  obtain ⟨q,e1,rfl⟩:=getMap hd
  obtain ⟨e2,e3⟩:=List.getElem?_zip_eq_some.mp e1
  obtain ⟨x,f1,f2⟩:=i1.get e2
  obtain ⟨y,f3,f4⟩:=i2.get e3
  refine ⟨⟨xs,ys,x,y,mono s h1,mono s h2,f1,f3⟩,λv H2 hy=>?_⟩
  obtain ⟨p,x',y',g1,g2,g3,g4,g5⟩:=hy
  have k1:=g4 xs (mono s h1)
  have k2:=g5 ys (mono s h2)
  rw [f1] at k1;cases k1
  rw [f3] at k2;cases k2
  exact .inr ⟨p,[q.1,q.2],[x,y],rfl,g2,g1,g3,IsA.cons f2 (IsA.cons f4 IsA.nil)⟩
 ·unfold pairsD at hi
  rw [length_map,List.length_zip] at hi
  omega
theorem n8' {br:List Expr}{x1:Nat}{tp p:Pos}{t:M (List D)} (hg:Gl X "zip") (hm:X.mg "zip"=none) (ha:AD X B [a,b] t) (hs:starEach [a,b] X.env=[(false,eval a X.env),(false,eval b X.env)]:=by rfl) (bA:starEach [b] X.env=[(false,eval b X.env)]:=by rfl) :
  ITD X B (.Tuple br x1 tp) (.Call (.Name "zip" p) [a,b] [] pos) (fn1 zipI t):=PI.imp (pQ' hg hm ha hs bA) λU H R q=>by
 obtain ⟨G,I,Z,ds,aj,r,e1,k⟩:=q
 obtain ⟨d,ae,e2,e3⟩:=ac' e1
 obtain ⟨e4,rfl⟩:=am' e3
 refine ⟨G,I,Z,d,_,r,e2,λvs H1 I1 r1 g1 hd=>?_⟩
 unfold zipI at e4
 split at e4
 ·cases e4
  obtain ⟨x,y,rfl,hx,hy⟩:=hd.two
  obtain ⟨l1,xs,rfl,h1,h2⟩:=ar' hx
  obtain ⟨l2,ys,rfl,h3,h4⟩:=ar' hy
  exact .inl ⟨l1,l2,xs,ys,rfl,(Same.rdK r1.iH h1).sq,(Same.rdK r1.iH h3).sq,k _ _ _ r1 g1 (fp' (λs h=>by rcases h with h | h;exact .inl (Same.rd s h);exact .inr h) (λ_=>.inr trivial) h1.sq h3.sq h2 h4)⟩
 ·cases e4
  obtain ⟨x,y,rfl,hx,hy⟩:=hd.two
  obtain ⟨l1,xs,rfl,h1,h2⟩:=av' hx
  obtain ⟨l2,ys,rfl,h3,h4⟩:=av' hy
  exact .inr ⟨l1,l2,xs,ys,rfl,Same.sqT r1.iH h1,Same.sqT r1.iH h3,k _ _ _ r1 g1 (fp' (λs h=>Same.sqT s h) (λ_=>.inr trivial) h1 h3 h2 h4)⟩
 ·cases e4
section
variable {k:Kd}
theorem drawsK (ok:KdOk k){prog:Program}{w:World}{A:Around} (hh:A.handled=none) (it l:Addr) (gG:l≠it) (items:Array Value):Draws prog w A it [it,l] items.size (λi v=>items[i]?=some v) (λi h=>k.it h it l i/\k.sq h l items) where
 live:=λi h st=>by obtain ⟨o,e,_⟩:=ok.itObj st.1;exact ⟨o,e⟩
 frame:=λi h h' st kk=>⟨ok.itAt st.1 λo e=>kk _ (by simp) o e,ok.sqAt st.2 λo e=>kk _ (by simp) o e⟩
 item:=λi s Q E hi st hQ=>ok.item st.1 st.2 (x:=items[i]) (by simp [hi]) λh' h1 h2=>hQ _ h' s.toks (by simp [hi]) ⟨h1,ok.sqAt st.2 λo e=>h2.extBut _ _ gG e⟩ h2
 done:=λs Q E st hE=>ok.stop hh st.1 st.2 (by simp) hE
theorem ip' (ok:KdOk k) (l:Addr) (items:Array Value) :
  Meets (Builtin.«enumerate.__new__» ⟨[.type "enumerate", .ref l],[]⟩) (λ_ R s=>k.sq s.heap l items ∧
   R (.ok (.ret (.ref (s.heap.push { cls:=.type k.nm,data:=.fields #[.ref l,.int 0 0] }).objs.size)))
    { s with heap:=(s.heap.push { cls:=.type k.nm,data:=.fields #[.ref l,.int 0 0] }).push { cls:=.type "enumerate", data:=.fields #[.none,.bool false,.ref s.heap.objs.size,rawInt 0,.none,.none] } }) :=
 .of_wp λprog w A R s h=>by
  obtain ⟨hp,gn,dw,tk,os⟩:=s
  obtain ⟨hl,h⟩:=h
  have gJ:=sub_enumerate
  have hL:k.sq (Shared.heap ⟨hp,gn,dw,tk,os⟩) l items:=hl
  wp_walk using ok.iter hL
  refine wpAny_stack_any λframes=>wpAny_pure ?_
  split
  next c _ _ _ _ _=>cases c == type "enumerate"<;>(wp_walk using ok.iter hL;exact ⟨_,rfl,h⟩)
  next=>wp_walk using ok.iter hL;exact ⟨_,rfl,h⟩
end
end
section
variable {prog:Program}{w:World}{A:Around}{E:Value->Shared->Prop}{s:Shared}{k:Kd}
noncomputable abbrev en1 (k:Kd) (h:Heap) (l:Addr):Heap:=h.push { cls:=.type k.nm,data:=.fields #[.ref l,.int 0 0] }
noncomputable abbrev en2 (k:Kd) (h:Heap) (l:Addr):Heap:=(en1 k h l).push { cls:=.type "enumerate", data:=.fields #[.none,.bool false,.ref h.objs.size,rawInt 0,.none,.none] }
theorem jH' (ok:KdOk k){l:Addr}{items:Array Value}{Q:Value->Shared->Prop} (hL:k.sq s.heap l items)
  (made:∀ n g,n=s.heap.objs.size->IsEnum g (n+1) n 0 .none->k.it g n l 0->(∀ b o,s.heap.get? b=some o->g.get? b=some o)->Q (.ref (n+1)) { s with heap:=g }) :
  wpAny (model prog w) A (call (type "enumerate") ([l].map Value.ref)) Q E s:=by
 have cZ:(en1 k s.heap l).objs.size=s.heap.objs.size+1:=size_push ..
 have iD:(en2 k s.heap l).get? (en1 k s.heap l).objs.size=some _:=get?_push_size _ rfl
 rw [cZ] at iD
 refine callType_new F.called_enumerate (by decide) (F.typeCall_enumerate_1 _) (F.newCall_enumerate_1 _) (λobj=>F.args_object_init_2 obj _) F.entry_enumerate_new (ip' ok l items) ⟨hL,?_⟩
 have put:Q (.ref (s.heap.objs.size+1)) { s with heap:=en2 k s.heap l }:=made _ _ rfl iD (ok.itAt ok.new λo e=>get?_push_of_some _ e) λb o x=>get?_push_of_some _ (get?_push_of_some _ x)
 rw [← cZ] at put iD
 exact ⟨⟨_,iD,rfl⟩,put⟩
end
section
variable {X:Cx}{B:BB}{a b c e:Expr}{es:List Expr}{pos:Pos}{ga gb gc:M D}{k:Kd}
noncomputable def Ite (rd:Hp->Addr->List V->Prop) (l:Addr):It :=
 ⟨λi H=>∃ xs x,rd H l xs/\xs[i]?=some x,λi H v H'=>∃ p x,H p=none/\v=.ref p/\H'=upd H p (.tup [.int i,x])/\(∀ xs,rd H l xs->xs[i]?=some x),λi H=>∃ xs,rd H l xs/\xs.length<=i⟩
theorem kJ' {P:Program}{w:World}{K:PySem.W.Frag}{br:List Expr}{x1:Nat}{tp:Pos}{rd:Hp->Addr->List V->Prop} (ok:KdOk k) (kr:KdRd K k rd){z it l:Addr} (j9:z≠it) (nB:l≠it) (qW:z≠l) :
  Turn P w K (.Tuple br x1 tp) (Ite rd l) [z,it] z (λi h=>(∃ old,IsEnum h z it i old)/\k.it h it l i) where
 mem:=by simp
 obj:=λi h st b hb=>by
  obtain ⟨⟨old,a1⟩,a2⟩:=st
  rw [mem_cons,mem_singleton] at hb
  rcases hb with rfl | rfl
  ·exact ⟨_,a1,λv q=>by cases (show fields _=Data.cell v from q)⟩
  ·exact ok.itObj a2
 keep:=λi h h' st kk=>by
  obtain ⟨⟨old,a1⟩,a2⟩:=st
  exact ⟨⟨old,kk _ (by simp) _ a1⟩,ok.itAt a2 λo e=>kk _ (by simp) o e⟩
 item:=by
  intro X hP hw hK hc i aa s U H E I hf st hg
  subst hP hw
  obtain ⟨⟨old,a1⟩,a2⟩:=st
  obtain ⟨xs,x,g1,g3⟩:=hg
  obtain ⟨af,r1,t1⟩:=kr.of hK I g1
  obtain ⟨u1,e1,e2⟩:=r1.get g3
  have aM:i < af.toArray.size:=by
   have:=(List.getElem?_eq_some_iff.mp e1).1
   simpa using this
  have D:=drawsK ok (prog:=X.prog) (w:=X.w) (A:=X.A.in1) (I.ok.hd hc) it l nB af.toArray
  refine wpAny_pyNext_enum_itemD D a1 ⟨a2,t1⟩ aM j9 (by simp [j9,qW]) λy h' tk b0 b1 b2 b3 b4 b5=>?_
  have hy:y=u1:=by
   have eG:af.toArray[i]?=some u1:=by simpa using e1
   have nC:af.toArray[i]?=some y:=b0
   rw [eG] at nC;cases nC;rfl
  subst hy
  refine ⟨.ref s.heap.objs.size,rfl,wpAny_letOwnedTupleGo_enum b1 λh2 c1 c2=>?_⟩
  have cY:z≠s.heap.objs.size:=ne_of_lt (lt_size a1)
  have qX:it≠s.heap.objs.size:=ne_of_lt (ok.itLt a2)
  have kk:∀ b u,b∉[z,it]->s.heap.get? b=some u->h2.get? b=some u:=λb u hb e=>by
   simp only [mem_cons,not_mem_nil,or_false,not_or] at hb
   exact c2.extBut _ _ hb.1 (b5 b u hb.1 hb.2 e)
  have pT:=c2.extBut _ _ (Ne.symm cY) b3
  have I1:Inv X aa U (upd H s.heap.objs.size (.tup [.int i,x])) { s with heap:=h2,toks:=tk+1 }:=eM' (t':=tk+1) I hf kk (le_refl _) ⟨by show 2<=sizeLine;rw [sizeLine_eq];decide,[.int i tk,y],.cons ⟨_,rfl⟩ (.cons e2 .nil),⟨_,pT,rfl,_,rfl⟩⟩
  have fr:=I.hok.fresh (le_refl s.heap.objs.size)
  refine ⟨.ref s.heap.objs.size,_,I1,rfl,⟨s.heap.objs.size,x,fr,rfl,rfl,λzs hz=>by rw [kr.inj hK I hz g1];exact g3⟩,⟨⟨y,c1⟩,ok.itAt b2.1 λo e=>c2.extBut _ _ j9.symm e⟩,λb hb=>?_⟩
  have j8:=(hf b hb).1
  have nb:b≠s.heap.objs.size:=by
   rw [mem_cons,mem_singleton] at hb
   rcases hb with rfl | rfl
   ·exact cY
   ·exact qX
  rw [ae' nb];exact j8
 done:=by
  intro X hP hw hK hc i aa s U H E I hf st hg
  subst hP hw
  obtain ⟨⟨old,a1⟩,a2⟩:=st
  obtain ⟨xs,g1,g3⟩:=hg
  obtain ⟨af,r1,t1⟩:=kr.of hK I g1
  have dM:=r1.length
  have hT:s.TypeIs (.ref z) "enumerate":=⟨_,a1,rfl⟩
  have hx:af.toArray[i]?=none:=by simp;omega
  unfold pyNext
  refine wpAny_bind (wpAny_attempt (wpAny_callSpecial?_slot (name:=ofString "__next__") hT F.slot_enumerate_next (wpAny_call_entry F.slot_enumerate_next hT F.entry_enumerate_next (wpAny_bind (wpAny_of_eq (a:=(Value.ref z,[])) rfl (wpAny_bind (wpAny_field (i:=2) a1 rfl (x:=.ref it) rfl ?_)))) (F.args_enumerate_next_1 _))))
  refine wpAny_bind (ok.stop (I.ok.hd hc) a2 t1 hx λh' x fO jU=>?_)
  obtain ⟨o,ho,gK⟩:=jU
  refine wpAny_bind (wpAny_isInstance (T := "StopIteration") (b:=true) ⟨o,ho,gK⟩ isSubtype_stop ?_)
  refine wpAny_pure ⟨rfl,bI' (t':=s.toks) I hf λb u hb e=>?_⟩
  simp only [mem_cons,not_mem_nil,or_false,not_or] at hb
  exact fO b u hb.2 e
 self:=λ_ _ _ _ _ st h=>by obtain ⟨⟨old,a1⟩,_⟩:=st;exact wpAny_pyIter_enum a1 h
noncomputable def iEnum (K:PySem.W.Frag) (ta:TA):TI:=λU H R=>ta U H λvs H1=>(∃ l xs,vs=[.ref l]/\SqL K H1 l xs/\R (Ite (λH a xs=>SqL K H a xs) l) H1)\/(∃ l xs,vs=[.ref l]/\SqT K H1 l xs/\R (Ite (λH a xs=>SqT K H a xs) l) H1)
theorem iR' {rd:Hp->Addr->List V->Prop} (ok:KdOk k) (kr:KdRd X.K k rd){br:List Expr}{x1:Nat}{tp:Pos}{aa:List (Addr×Obj)}{U:L2.St}{H:Hp}{s:Shared}{R:It->Hp->Prop}{l:Addr}{xs:List V} (I:Inv X aa U H s) (h1:rd H l xs) (q:R (Ite rd l) H) :
  wpAny (model X.prog X.w) X.A (call (.type "enumerate") [.ref l]) (λv s1=>wpAny (model X.prog X.w) X.A (pyIter v) (PIE X aa U (.Tuple br x1 tp) R) X.xe s1) X.xe s:=by
 obtain ⟨af,r1,t1⟩:=kr.of rfl I h1
 refine jH' ok t1 λn h' hn a1 a4 a6=>wpAny_pyIter_enum a1 ?_
 subst hn
 have I1:Inv X aa U H { s with heap:=h' }:=I.kept (t':=s.toks) a6
 have lt:=ok.sqLt t1
 refine ⟨s.heap.objs.size+1,[s.heap.objs.size+1,s.heap.objs.size],_,_,H,rfl,I1,kJ' ok kr (Nat.succ_ne_self _) (ne_of_lt lt) (ne_of_gt (lt_succ_of_lt lt)),⟨⟨_,a1⟩,a4⟩,λb hb=>?_,q⟩
 rw [mem_cons,mem_singleton] at hb
 have up:∀ n,FpOk X aa H (s.heap.objs.size+n):=λn=>I.fpOk (le_add_right _ _) (I.hok.fresh (le_add_right _ _))
 rcases hb with rfl | rfl
 ·exact up 1
 ·exact up 0
theorem n9' {br:List Expr}{x1:Nat}{tp p:Pos}{ta:TA} (hg:Gl X "enumerate") (hm:X.mg "enumerate"=none) (ha:PA X [a] ta) (hs:starEach [a] X.env=[(false,eval a X.env)]:=by rfl) :
  PI X (.Tuple br x1 tp) (.Call (.Name "enumerate" p) [a] [] pos) (iEnum X.K ta):=by
 intro aa s U H R I h
 refine Call_ (aW' I hg hm boot_enumerate (PyProof.Rows.callWith_type1 (thn (ha pos aa s U H _ I h) λus s1 ⟨vs,H1,I1,r1,q1⟩=>?_) hs rfl))
 rcases q1 with ⟨l1,xs,e,h1,q⟩ | ⟨l1,xs,e,h1,q⟩
 ·subst e
  obtain ⟨u1,rfl,e1⟩:=r1.one
  cases e1
  exact iR' bP' (nC' _) I1 h1 q
 ·subst e
  obtain ⟨u1,rfl,e1⟩:=r1.one
  cases e1
  exact iR' kH' (nD' _) I1 h1 q
noncomputable def numD:Nat->List D->List D
 | _,[]=>[]
 | n,d::ds=>.tup [.int n,d]::numD (n+1) ds
theorem du':∀ {ds:List D}{n i:Nat}{d:D},(numD n ds)[i]?=some d->∃ x,ds[i]?=some x/\d=.tup [.int ((n+i:Nat):Int),x]
 | [],n,i,d,h=>by rw [numD] at h;simp at h
 | c::ds,n,0,d,h=>by rw [numD] at h;simp at h;exact ⟨c,rfl,h.symm⟩
 | c::ds,n,i+1,d,h=>by
  rw [numD] at h
  obtain ⟨x,e1,e2⟩:=du' (i:=i) (by simpa using h)
  refine ⟨x,by simpa using e1,?_⟩
  rw [e2,show n+1+i=n+(i+1) from by omega]
theorem hA':∀ (ds:List D) (n:Nat),(numD n ds).length=ds.length
 | [],n=>by rw [numD]
 | c::ds,n=>by rw [numD,length_cons,length_cons,hA' ds]
noncomputable def enumI (ds:List D):Option (List D):=match ds with
 | [.lst xs]=>some (numD 0 xs)
 | [.tup xs]=>some (numD 0 xs)
 | _=>none
theorem eA' {K:PySem.W.Frag}{I:Hp}{rd:Hp->Addr->List V->Prop}{l:Addr}{xs:List V}{ds:List D} (mono:∀ {H a xs},Same I H->rd I a xs->rd H a xs) (h1:rd I l xs) (i1:IsA K I ds xs):Yields K I (numD 0 ds) (Ite rd l):=λi H s=>by
 refine ⟨λd hd=>?_,λhi=>⟨xs,mono s h1,?_⟩⟩
 ·obtain ⟨y,e1,rfl⟩:=du' hd
  obtain ⟨x,f1,f2⟩:=i1.get e1
  refine ⟨⟨xs,x,mono s h1,f1⟩,λv H2 hy=>?_⟩
  obtain ⟨p,x',g1,g2,g3,g4⟩:=hy
  have k1:=g4 xs (mono s h1)
  rw [f1] at k1;cases k1
  refine .inr ⟨p,_,[.int i,x],rfl,g2,g1,g3,IsA.cons ?_ (IsA.cons f2 IsA.nil)⟩
  rw [zero_add]
  exact Is.int _
 ·rw [hA',i1.length] at hi
  exact hi
theorem mt' {br:List Expr}{x1:Nat}{tp p:Pos}{t:M (List D)} (hg:Gl X "enumerate") (hm:X.mg "enumerate"=none) (ha:AD X B [a] t) (hs:starEach [a] X.env=[(false,eval a X.env)]:=by rfl) :
  ITD X B (.Tuple br x1 tp) (.Call (.Name "enumerate" p) [a] [] pos) (fn1 enumI t):=PI.imp (n9' hg hm ha hs) λU H R q=>by
 obtain ⟨G,I,Z,ds,aj,r,e1,k⟩:=q
 obtain ⟨d,ae,e2,e3⟩:=ac' e1
 obtain ⟨e4,rfl⟩:=am' e3
 refine ⟨G,I,Z,d,_,r,e2,λvs H1 I1 r1 g1 hd=>?_⟩
 unfold enumI at e4
 split at e4
 ·cases e4
  obtain ⟨x,rfl,hx⟩:=hd.one
  obtain ⟨l1,xs,rfl,h1,h2⟩:=ar' hx
  exact .inl ⟨l1,xs,rfl,(Same.rdK r1.iH h1).sq,k _ _ _ r1 g1 (eA' (λs h=>by rcases h with h | h;exact .inl (Same.rd s h);exact .inr h) h1.sq h2)⟩
 ·cases e4
  obtain ⟨x,rfl,hx⟩:=hd.one
  obtain ⟨l1,xs,rfl,h1,h2⟩:=av' hx
  exact .inr ⟨l1,xs,rfl,Same.sqT r1.iH h1,k _ _ _ r1 g1 (eA' (λs h=>Same.sqT s h) h1 h2)⟩
 ·cases e4
noncomputable def blsD:List D->Option (List Bool)
 | []=>some []
 | .bl b::ds=>match blsD ds with
  | some bs=>some (b::bs)
  | none=>none
 | _=>none
theorem hB':∀ {ds:List D}{bs:List Bool},blsD ds=some bs->ds=bs.map .bl
 | [],bs,h=>by rw [blsD] at h;cases h;rfl
 | .bl b::ds,bs,h=>by
  rw [blsD] at h
  cases e:blsD ds with
  | none=>rw [e] at h;cases h
  | some cs=>rw [e] at h;cases h;rw [hB' e];rfl
 | .non::_,_,h=>by cases h
 | .int _::_,_,h=>by cases h
 | .str _::_,_,h=>by cases h
 | .tup _::_,_,h=>by cases h
 | .lst _::_,_,h=>by cases h
theorem hC' {K:PySem.W.Frag}{I:Hp}:∀ {bs:List Bool}{xs:List V},IsA K I (bs.map .bl) xs->xs=bs.map .bl
 | [],xs,h=>h.nil_inv
 | b::bs,xs,h=>by
  obtain ⟨x,r,rfl,h1,h2⟩:=h.cons_inv
  rw [a3' h1,hC' h2];rfl
theorem iS':∀ {bs:List Bool}{us:List Value},Vals (bs.map .bl) us->us=bs.map .bool
 | [],us,h=>by cases h;rfl
 | b::bs,us,h=>by
  cases h with
  | cons r t=>rw [iS' t];cases r;rfl
theorem kK' (bs:List Bool):(range bs.length).any (λi=>bs.getD i true)=bs.any id:=by
 induction bs with
 | nil=>rfl
 | cons b bs ih =>
  rw [length_cons,List.range_succ_eq_map,any_cons,List.any_map,any_cons]
  congr 1
theorem kL' (hc:X.calm=true):CallR X (.builtin "any") (λxs H Q=>∃ (p:Addr) (bs:List Bool),xs=[.ref p]/\SqL X.K H p (bs.map .bl)/\Q (.bl (bs.any id)) H):=by
 intro aa s U H xs us Q I r h
 obtain ⟨p,bs,rfl,hq,q⟩:=h
 obtain ⟨u,rfl,ru⟩:=vals1 r
 cases ru
 obtain ⟨af,rv,t,hz⟩:=I.list hq
 have:=iS' rv
 subst this
 have lt:p < s.heap.objs.size:=by obtain ⟨_,e,_⟩:=t.isList;exact lt_size e
 refine call_any_walk (wpAny_pyIter_list t.isList ?_)
 refine ⟨s.heap.objs.size,_,_,_,_,_,λi=>bs.getD i true,rfl,Walks.list (A:=X.A.in1) (I.ok.hd hc) s.heap.objs.size p (ne_of_lt lt) _,⟨⟨_,get?_push_size _ rfl,rfl,rfl⟩,t.isList.push _⟩,?_,?_⟩
 ·intro i v s' Q' E' hv hQ
  have iE:(bs.map Value.bool)[i]?=some v:=by simpa using hv
  obtain ⟨b,e1,rfl⟩:=getMap iE
  have hQ:Q' (bs.getD i true) s':=hQ
  rw [getD_eq_getElem?_getD,e1] at hQ
  exact wpAny_truthy_bool hQ
 ·intro h' tk kk
  have e1:(bs.map Value.bool).toArray.size=bs.length:=by simp
  rw [e1,kK']
  refine ⟨.bl (bs.any id),H,I.kept λb o e=>kk b o (by simp only [mem_singleton];exact ne_of_lt (lt_size e)) (get?_push_of_some _ e),rfl,q⟩
noncomputable def anyF (ds:List D):Option D:=match ds with
 | [.lst xs]=>match blsD xs with
  | some bs=>some (.bl (bs.any id))
  | none=>none
 | _=>none
theorem pR' {p:Pos}{t:M (List D)} (hc:X.calm=true) (hg:Gl X "any") (hm:X.mg "any"=none) (ha:AD X B [e] t) (he:starEach [e] X.env=(false,eval e X.env)::starEach [] X.env:=by rfl) (aA:(backTo pos (starEach [] X.env)).any (·.1)=false:=by rfl) :
  ED X B (.Call (.Name "any" p) [e] [] pos) (fn1 anyF t):=fj' (kL' hc) (λds d e B G I H U Z xs Q r h k=>by
 unfold anyF at e
 split at e
 ·split at e
  ·rename_i bs eb
   cases e
   have:=hB' eb
   subst this
   obtain ⟨x,rfl,hx⟩:=h.one
   obtain ⟨q,zs,rfl,h3,h4⟩:=ar' hx
   have:=hC' h4
   subst this
   exact ⟨q,bs,rfl,(Same.rdK r.iH h3).sq,k.now r (Is.bl _)⟩
  ·cases e
 ·cases e) hg hm boot_any ha (by decide) (by decide) he aA
noncomputable def reprF (ds:List D):Option D:=match ds with
 | [.bl b]=>some (.str (if b then "True" else "False"))
 | _=>none
end
theorem CompScope.of {cr sc:Scope}{N N':List Str}{m:Nat}
  (h:decide (sc.kind=.function/\(∀ y∈sc.names,y.2≠.cell)/\(∀ y∈sc.names,y.2=.local->sc.names.lookup y.1=some .local)/\(∀ y∈sc.names,y.2=.free->cr.names.lookup y.1=some .cell\/cr.names.lookup y.1=some .free)/\N'.Nodup/\N'.length=m+N.length ∧
   (∀ p∈(N'.drop m).zip N,((relab sc cr).names.lookup p.1=none)\/(p.1=p.2/\(relab sc cr).names.lookup p.1≠some .local)))=true):CompScope cr sc N N' m:=by
 obtain ⟨h1,h2,h3,h4,h5,h6,h7⟩:=of_decide_eq_true h
 exact ⟨h1,h2,h3,h4,h5,h6,h7⟩
theorem pS' {K:PySem.W.Frag}{H:Hp}{a:Addr}{ns:List Int}{g:List R->Option (R×List R)} (mQ:RdK K H a (ns.map V.int))
  (hg:∃ rs,g [.val (.lst (ns.map D.int))]=some (.val (.bl true),rs)):spD K g [.ref a] H (λv _=>v=.bl true) λ_ _ _=>False:=by
 obtain ⟨rs,hg⟩:=hg
 have nD:∀ ns:List Int,IsA K H (ns.map D.int) (ns.map V.int):=λns=>by
  induction ns with
  | nil=>exact IsA.nil
  | cons n ns ih=>exact IsA.cons (Is.int n) ih
 refine ⟨H,H,[.val (.lst (ns.map D.int))],.val (.bl true),rs,?_,rfl,hg,λv H' I' r g' hv=>a3' (K:=K) (I:=I') hv⟩
 refine ⟨Same.refl _,Same.refl _,rfl,λi r e=>?_,λi j r r' v e e' m=>?_,λi ds e=>rfl⟩
 ·match i,e with
  | 0,e=>cases e;exact ⟨_,rfl,Is.lst mQ (nD ns)⟩
 ·match i,e with
  | 0,e=>cases e;cases m
noncomputable def hT (K:PySem.W.Frag) (H:Hp):Hp:=λb=>match tabIn K "few_of" with
 | some (_,P)=>if b=P then some (.tbl "few_of.<locals>.<lambda>") else H b
 | none=>H b
theorem hD' {K:PySem.W.Frag}{H:Hp}{c P:Addr} (h:tabIn K "few_of"=some (c,P)):hT K H P=some (.tbl "few_of.<locals>.<lambda>"):=by
 unfold hT
 rw [h]
 exact if_pos rfl
theorem gZ' {K:PySem.W.Frag}{H:Hp}{b:Addr}:hT K H b=H b\/∃ c,tabIn K "few_of"=some (c,b):=by
 unfold hT
 cases e:tabIn K "few_of" with
 | none=>exact .inl rfl
 | some q =>
  obtain ⟨c,P⟩:=q
  dsimp only
  by_cases h:b=P
  ·subst h;exact .inr ⟨c,rfl⟩
  ·exact .inl (if_neg h)
theorem kM' {P:Program}{w:World}{K:PySem.W.Frag}{mg mb:Str->Option Value}{CX:CXT}{k:Nat}{fa a:Addr}{fd:FuncData}{x:Str}{sp:Sp}{au:Shared}{vs:List Value}{ns:List Int}
  (KX:K.In au.heap) (fJ:au.heap.Ns mainGlobals mg) (hb:au.heap.Ns builtinsNs mb) (qY:∀ x:Str,x ≠ "__name__"->mb x=bootBuiltins x) (fz:au.heap.NoLimit) (hg:au.gens=#[])
  (qZ:∃ bm ob,mg "__builtins__"=some (.ref bm)/\bm≠builtinsNs/\au.heap.get? bm=some ob/\ob.cls=.type "module"/\ob.dict=some builtinsNs/\ob.data=.plain)
  (dC:∀ c P,tabIn K "few_of"=some (c,P)->PySem.W.CodeHd au.heap c P/\au.heap.get? P=some (PySem.W.tabObj #[])) (gL:noTabs K=true)
  (ha:au.heap.get? a=some { cls:=.type "list", data:=.seq vs.toArray }) (hi:IntsAre vs ns) (hl:ns.length<=sizeLine) (hr:Room k callerA)
  (F:∀ base:Heap,K.In base->base.Ns mainGlobals mg->FnOk P w K mg base CX k fa fd [x] sp) (eK:∀ (s:Shared) (u:Value),BindsTo s fd ⟨[u],[]⟩ [(x,u)])
  (dm:∀ H:Hp,RdK K H a (ns.map V.int)->sp [.ref a] H (λv _=>v=.bl true) λ_ _ _=>False)
  (ka:∀ H e s',CX [] H au (λ_ _ _=>False) e s'->False) :
  codeAny (model P w) callerA (.call (.ref fa) ⟨[.ref a],[]⟩) (λr s'=>r=.ok (.ret (.bool true))/\OldK au.heap s'.heap/\s'.os=au.os/\AllBare s'.gens) au:=by
 have rv:=gh' hi
 have nE:=hi.length
 have ra:∀ {c b:Addr}{o:Obj},tabIn K "few_of"=some (c,b)->K.lookup b=some o->False:=λ{c b o} e lk=>by
  have e1:=KX b o lk
  rw [(dC c b e).2] at e1
  cases e1
  have:=all_eq_true.mp gL (b,_) (PySem.W.mem_of_lookupK lk)
  exact absurd (show false=true from this) Bool.false_ne_true
 -- from an abstract heap in which nothing but the script and the table may be cK
 have jg:∀ H0:Hp,Only H0->RdK K (hT K H0) a (ns.map V.int)->HOk P w (hT K H0) au.heap->(∀ b,H0 b≠none->b=a)->(H0 a≠none->K.lookup a=none) →
   codeAny (model P w) callerA (.call (.ref fa) ⟨[.ref a],[]⟩) (λr s'=>r=.ok (.ret (.bool true))/\OldK au.heap s'.heap/\s'.os=au.os/\AllBare s'.gens) au:=by
  intro H0 hO hS hok hA hK
  obtain ⟨H,eH⟩:∃ H,H=hT K H0:=⟨_,rfl⟩
  have kc:∀ b,H b=H0 b\/∃ c,tabIn K "few_of"=some (c,b):=λb=>by rw [eH];exact gZ'
  rw [← eH] at hS hok
  have ca:∀ {b:Addr}{o:Obj},au.heap.get? b=some o->H b=none->(hidT au.heap H).get? b=some o:=λe n=>l3' e n
  have free:∀ {b:Addr}{o:Obj},au.heap.get? b=some o->o.cls≠.type "list"\/(∀ xs n,o.data≠.seq xs n)->o.cls≠.none\/(∀ vs,o.data≠.fields vs)->H b=none:=λ{b o} e n1 n2=>by
   rcases kc b with q | ⟨c,q⟩
   ·rw [q]
    cases z:H0 b with
    | none=>rfl
    | some u =>
     have e':b=a:=hA b (by rw [z];simp)
     subst e'
     rw [ha] at e;cases e
     rcases n1 with n1 | n1
     ·exact absurd rfl n1
     ·exact absurd rfl (n1 _ _)
   ·rw [(dC c b q).2] at e;cases e
    rcases n2 with n2 | n2
    ·exact absurd rfl n2
    ·exact absurd rfl (n2 _)
  have iF:∀ {b:Addr}{m:Str->Option Value},au.heap.Ns b m->(hidT au.heap H).Ns b m:=λ{b m} ⟨o,es,ep,e,d,r⟩=>⟨o,es,ep,ca e (free e (.inr λxs n z=>by rw [d] at z;cases z) (.inr λvs z=>by rw [d] at z;cases z)),d,r⟩
  have nG:K.In (hidT au.heap H):=λb o e=>ca (KX b o e) (by
   rcases kc b with q | ⟨c,q⟩
   ·rw [q]
    cases z:H0 b with
    | none=>rfl
    | some u =>
     have e':b=a:=hA b (by rw [z];simp)
     subst e'
     rw [hK (by rw [z];simp)] at e;cases e
   ·exact (ra q e).elim)
  have hM:Mod K mg (hidT au.heap H):=⟨nG,iF fJ,⟨mb,iF hb,qY⟩,let ⟨mc,h1,h2⟩:=fz;⟨mc,iF h1,h2⟩,by
   obtain ⟨bm,ob,b1,b2,b3,b4,b5,b6⟩:=qZ
   exact ⟨bm,ob,b1,b2,ca b3 (free b3 (.inl (by rw [b4];decide)) (.inl (by rw [b4];decide))),b4,b5,b6⟩,λc P q=>by
   obtain ⟨o,vs,jh,tf,gM,tg,inF,ji,tt,e1,e2,e3,r⟩:=(dC c P q).1
   exact ⟨o,vs,jh,tf,gM,tg,inF,ji,tt,ca e1 (free e1 (.inl (by rw [e2];decide)) (.inl (by rw [e2];decide))),e2,e3,r⟩⟩
  have e0:Env0 P w K mg (hidT au.heap H) callerA [] au H:=⟨rfl,hM,λb o e=>nI' e,Nat.le_of_eq (kh' _ _),trivial,λb hb=>absurd (show b∈([]:List Addr) from hb) (by simp),hok,.of_eq hg,λc P q=>by rw [eH];exact hD' q⟩
  refine codeAny_mono ((F _ nG (iF fJ)).run callerA [] au H ⟨[.ref a],[]⟩ [.ref a] [.ref a] _ _ hr e0 (eK au (.ref a)) (.cons rfl .nil) (dm H hS)) λr s' h=>?_
  cases r with
  | error e=>exact (ka H e s' h).elim
  | ok fl =>
   cases fl with
   | next=>exact elim h
   | brk=>exact elim h
   | cont=>exact elim h
   | ret u =>
    obtain ⟨v,H',os,bare,un,jj,r',q⟩:=h
    have q':v=.bl true:=q
    subst q'
    obtain rfl:u=Value.bool true:=r'
    refine ⟨rfl,⟨λb o e=>?_,λb o e=>un.there b o e (by simp)⟩,os,bare⟩
    rcases kc b with q | ⟨c,q⟩
    ·cases z:H0 b with
     | none=>exact .inl (un.keep b o e (by rw [q];exact z) (by intro z;exact absurd (show b∈([]:List Addr) from z) (by simp)) (by simp))
     | some u =>
      rcases hO b with z' | ⟨ob,xs,z'⟩
      ·rw [z] at z';cases z'
      ·rw [← q] at z'
       have z2:=un.frzs b ob _ z'
       obtain ⟨e1,_⟩:=hok b _ z'
       obtain ⟨e2,_⟩:=jj b _ z2
       rw [e] at e1;cases e1
       exact .inl e2
    ·have z2:=un.tbls b _ (e0.tb c b q)
     obtain ⟨ps,e2,_⟩:=jj b _ z2
     obtain ⟨⟨oc,gN,jh,tf,gM,tg,inF,ji,tt,c1,c2,c3,c4,_⟩,e3⟩:=dC c b q
     rw [e3] at e
     cases e
     exact .inr (.inl ⟨⟨c,oc,gN,c1,c2,c3,c4⟩,rfl,#[],ps,rfl,by rw [Array.empty_append];exact e2⟩)
 have gO:∀ {H0:Hp}{c b:Addr},tabIn K "few_of"=some (c,b)->ObjOk P w (hT K H0) au.heap b (.tbl "few_of.<locals>.<lambda>"):=λ{H0 c b} q=>⟨#[],(dC c b q).2,trivial,λpos cv z=>by cases z⟩
 have rb:∀ {c:Addr},tabIn K "few_of"≠some (c,a):=λ{c} q=>by
  have:=(dC c a q).2
  rw [ha] at this;cases this
 cases hk:K.lookup a with
 | some o =>
  -- the script is one of the module's own objects
  have e:=KX a o hk
  rw [ha] at e
  cases e
  refine jg (λ_=>none) (λ_=>.inl rfl) (.inr ⟨vs,_,hk,rv,by rw [nE];exact hl⟩) (λb u z=>?_) (λb z=>absurd rfl z) λz=>absurd rfl z
  rcases gZ' (K:=K) (H:=λ_=>none) (b:=b) with q | ⟨c,q⟩
  ·rw [q] at z;cases z
  ·rw [hD' q] at z;cases z;exact gO q
 | none =>
  have aG:hT K (λb=>if b=a then some (.frz { cls:=.type "list", data:=.seq vs.toArray } (.lst (ns.map V.int))) else none) a=some (.frz { cls:=.type "list", data:=.seq vs.toArray } (.lst (ns.map V.int))):=by
   rcases gZ' (K:=K) (H:=λb=>if b=a then some (.frz { cls:=.type "list", data:=.seq vs.toArray } (.lst (ns.map V.int))) else none) (b:=a) with q | ⟨c,q⟩
   ·rw [q];exact if_pos rfl
   ·exact absurd q rb
  refine jg (λb=>if b=a then some (.frz { cls:=.type "list", data:=.seq vs.toArray } (.lst (ns.map V.int))) else none) (λb=>?_) (.inl (.inr ⟨_,aG⟩)) (λb u z=>?_) (λb z=>?_) λ_=>hk
  ·by_cases hb:b=a
   ·exact .inr ⟨_,_,if_pos hb⟩
   ·exact .inl (if_neg hb)
  ·rcases gZ' (K:=K) (H:=λb=>if b=a then some (.frz { cls:=.type "list", data:=.seq vs.toArray } (.lst (ns.map V.int))) else none) (b:=b) with q | ⟨c,q⟩
   ·rw [q] at z
    by_cases hb:b=a
    ·have z':=(if_pos hb).symm.trans z
     cases z'
     subst hb
     exact ⟨ha,by rw [length_map];exact hl,vs,_,rv,ha⟩
    ·have z':=(if_neg hb).symm.trans z
     cases z'
   ·rw [hD' q] at z;cases z;exact gO q
  ·by_cases hb:b=a
   ·exact hb
   ·exact absurd (if_neg hb) z
theorem mu' {l:PySem.W.OpenLaw}{n k:Nat}{q:Program}{cq:List Str}{XP:(Str->Option Value)->Heap->Prop}{YP:World->Heap->Prop}{d:DefRec}{K:Params->PySem.W.Frag}{CX:World->CXT}{sp:World->Sp}{x:Str}
  (hn:l.most=some n) (rf:n<=sizeLine) (gw:d.params.defaults=[]) (hr:Room k callerA)
  (bY:∃ d',(recsOf q).find? (λe=>e.name == ("few_of":Str))=some d') (gL:∀ p,noTabs (K p)=true)
  (hY:∀ (w:World) (h:Heap),YP w h->(K w.params).In h)
  (F:∀ (w:World) (mg:Str->Option Value) (fa:Addr) (h:Heap),(K w.params).In h->h.Ns mainGlobals mg->mg d.name=some (.ref fa) →
   ∃ fd:FuncData,(∀ (s:Shared) (u:Value),BindsTo s fd ⟨[u],[]⟩ [(x,u)]) ∧
    ∀ base:Heap,(K w.params).In base->base.Ns mainGlobals mg->FnOk l.prog w (K w.params) mg base (CX w) k fa fd [x] (sp w))
  (dm:∀ (w:World) (H:Hp) (a:Addr) (ns:List Int),ns.length<=n->RdK (K w.params) H a (ns.map V.int)->sp w [.ref a] H (λv _=>v=.bl true) λ_ _ _=>False)
  (ka:∀ (w:World) (H:Hp) (s:Shared) (e:Value) (s':Shared),CX w [] H s (λ_ _ _=>False) e s'->False) :
  PySem.W.WalkO q cq XP YP l.row.toRowW d [] (λf vs=>PySem.call f vs):=by
 refine Att.qm' hn gw λw s₀ au mg mb fa o pm cd bC a vs ns G Y ho hd aP gy gz ez aM hg=>?_
 have KX:=hY w _ Y
 obtain ⟨fd,hb,hF⟩:=F w mg fa _ KX G.T.g gy
 obtain ⟨d',bj⟩:=bY
 exact kM' KX G.T.g G.T.b G.T.builtins G.T.nolimit hg G.T.bmain (λc P q=>PySem.W.tab_of G.T KX bj q) (gL _) gz ez (le_trans aM rf) hr hF hb (λH hS=>dm w H a ns aM hS) λH e s'=>ka w H au e s'
def un1 {α:Type} (F:D->Option α) (g:M D):M α:=bnd g λd=>lft (F d)
inductive Ki where
 | iT | sT | bT | tT | lT
section
variable {X:Cx}{B:BB}{e:Expr}{ga:M D}{pos:Pos}
noncomputable def negI (d:D):Option D:=match d with
 | .int i=>some (.int (-i))
 | _=>none
theorem qE':∀ U H Q,tD X.K B (un1 negI ga) U H Q->tUn (rU λi=>.int (-i)) (tD X.K B ga) U H Q:=λU H Q q=>by
 obtain ⟨G,I,Z,d,aj,r,e1,k⟩:=q
 obtain ⟨d1,ae,e2,e3⟩:=ac' e1
 obtain ⟨e4,rfl⟩:=am' e3
 unfold negI at e4
 split at e4
 ·cases e4
  exact ⟨G,I,Z,_,_,r,e2,λv H1 I1 r1 g1 h1=>⟨_,al' h1,k _ _ _ r1 g1 (Is.int _)⟩⟩
 ·cases e4
theorem bn' (ha:ED X B e ga):ED X B (.UnaryOp .USub e pos) (un1 negI ga):=PE.imp (qs' pr' ha) qE'
end
end DL
namespace PySem.SeqAt
def RcLtAt (A:Around) (s:Shared) (y x:Value) (b:Bool):Prop :=
 ∀ (prog:Program) (w:World) (E:Value->Shared->Prop) (Q:Value->Shared->Prop),Q (.bool b) s->wpAny (model prog w) A (richCompare .Lt y x) Q E s
noncomputable def ltFrom (e lt:Nat->Bool) (d:Bool):List Nat->Bool
 | []=>d
 | i::r=>if e i then ltFrom e lt d r else lt i
theorem jI' (u v:Addr) (us vs:Array Value) (p q:Nat) (du dv:Option Addr) (ku kv:Array (Option Value)) (e lt:Nat->Bool) :
  Meets (Builtin.«tuple.__lt__» ⟨[.ref u,.ref v],[]⟩) (λA ak s=>(s.heap.get? u=some ⟨.type "tuple", du,.seq us p,ku⟩/\s.heap.get? v=some ⟨.type "tuple", dv,.seq vs q,kv⟩) ∧
    (∀ j (h1:j < us.size) (h2:j < vs.size),EqAt A.in1 s us[j] vs[j] (e j)/\(e j=false->RcLtAt A.in1 s us[j] vs[j] (lt j)))/\ak (.ok (.ret (.bool (ltFrom e lt (decide (us.size < vs.size)) (range (min us.size vs.size)))))) s) :=
 .of_wp λprog w A ak s given=>by
  obtain ⟨hp,gn,dw,tk,os⟩:=s
  obtain ⟨⟨gu,gv⟩,gP,nH⟩:=given
  obtain ⟨gQ,hs⟩:∃ gQ:Nat->Prop,gQ=λi=>ak (.ok (.ret (.bool (ltFrom e lt (decide (us.size < vs.size)) ((range (min us.size vs.size)).drop i))))) ⟨hp,gn,dw,tk,os⟩:=⟨_,rfl⟩
  have dB:=AutoSeq1.sub_tuple_tuple
  have len:(us.toList.zip vs.toList).length=min us.size vs.size:=by rw [List.length_zip];rfl
  wp_walk using AutoSeq1.wpAny_loadPart' gu,AutoSeq1.wpAny_loadPart' gv,wpAny_forIn_list _ (λleft eF now=>eF.1=none/\now=⟨hp,gn,dw,tk,os⟩/\∃ i,left=(us.toList.zip vs.toList).drop i/\gQ i) _
  case turn =>
   rintro ⟨y,x⟩ left eF now ⟨aI,rfl,i,aJ,say⟩
   have aG:i < min us.size vs.size:=by
    rw [← len]
    exact Nat.lt_of_not_le λno=>by rw [drop_eq_nil_of_le no] at aJ;exact List.cons_ne_nil _ _ aJ
   have k1:i < us.size:=by omega
   have k2:i < vs.size:=by omega
   have cut:=drop_eq_getElem_cons (l:=us.toList.zip vs.toList) (i:=i) (len▸aG)
   rw [← aJ,List.getElem_zip] at cut
   obtain ⟨yx,fA⟩:=List.cons.inj cut
   obtain ⟨rfl,rfl⟩:=Prod.mk.inj yx
   rw [hs] at say
   have jk:=drop_eq_getElem_cons (l:=range (min us.size vs.size)) (i:=i) (by simpa using aG)
   rw [getElem_range] at jk
   rw [jk,ltFrom] at say
   have two:=gP i k1 k2
   refine wpAny_bind (two.1 prog w _ _ ?_)
   cases like:e i with
   | true =>
    rw [like,if_pos rfl] at say
    wp_walk
    exact ⟨rfl,rfl,i+1,fA,by rw [hs];exact say⟩
   | false =>
    rw [like,if_neg Bool.false_ne_true] at say
    refine wpAny_bind (wpAny_rule (wpAny_bind (two.2 like prog w _ _ ?_)))
    wp_walk
    exact ⟨_,rfl,say⟩
  case fin =>
   rintro ⟨eF,_⟩ now ⟨aI,rfl,i,aJ,say⟩
   cases aI
   have past:min us.size vs.size<=i:=by
    rw [← len]
    exact List.drop_eq_nil_iff.mp aJ.symm
   rw [hs] at say
   rw [drop_eq_nil_of_le (by simpa using past),ltFrom] at say
   wp_walk
   exact ⟨_,rfl,by simpa [Builtin.Tuple.tupleCompareSizes] using say⟩
  case h=>exact ⟨rfl,rfl,0,rfl,by rw [hs];exact nH⟩
theorem RcLtAt.tuples {A:Around}{s:Shared}{u v:Addr}{us vs:Array Value}{e lt:Nat->Bool} (hu:s.heap.IsTuple u us) (hv:s.heap.IsTuple v vs) (room:A.units < cLine)
  (gP:∀ j (h1:j < us.size) (h2:j < vs.size),EqAt A.in1 s us[j] vs[j] (e j)/\(e j=false->RcLtAt A.in1 s us[j] vs[j] (lt j))):RcLtAt A s (.ref u) (.ref v) (ltFrom e lt (decide (us.size < vs.size)) (range (min us.size vs.size))):=by
 obtain ⟨⟨_,du,_,ku⟩,gu,rfl,p,rfl⟩:=hu
 obtain ⟨⟨_,dv,_,kv⟩,gv,rfl,q,rfl⟩:=hv
 exact λprog w E Q h=>richCompare_meets_room (op:=.Lt) ⟨_,gu,rfl⟩ ⟨_,gv,rfl⟩ F.slot_tuple_lt F.entry_tuple_lt (F.args_tuple_lt_2 _ _) (jI' u v us vs p q du dv ku kv e lt) ⟨⟨gu,gv⟩,gP,Value.noConfusion,h⟩ room
theorem RcLtAt.int_int {A:Around}{s:Shared} (a:Int) (t:Tok) (b:Int) (u:Tok):RcLtAt A s (.int a t) (.int b u) (decide (a < b)):=λprog w E Q h=>PyProof.Rows.lt_int h
end PySem.SeqAt
namespace DL
open PySem PySem.Spec PyProof.Rows L2
section
variable {X:Cx}{B:BB}{a b c e:Expr}{es:List Expr}{pos:Pos}
theorem cw':∀ {xs:List V}{us:List Value},xs.length=us.length->(∀ (i:Nat) x u,xs[i]?=some x->us[i]?=some u->RelV x u)->Vals xs us
 | [],[],_,_=>.nil
 | [],_::_,h,_=>by cases h
 | _::_,[],h,_=>by cases h
 | x::xs,u::us,h,k=>.cons (k 0 x u rfl rfl) (cw' (Nat.succ.inj h) λi y v e f=>k (i+1) y v e f)
end
section
variable {X:Cx}{B:BB}{a b c e:Expr}{es:List Expr}{pos:Pos}{kr:Nat}
noncomputable def prD (p:Int×Int):D:=.tup [.int p.1,.int p.2]
open PySem.SeqAt in
end
end DL
namespace DL
open PySem PySem.W PyProof.Rows
structure Ord (lt:Nat->Nat->Bool):Prop where
 as:∀ a b,lt a b=true->lt b a=false
 tr:∀ a b c,lt b a=false->lt c b=false->lt c a=false
section
variable {n:Nat}{lt:Nat->Nat->Bool}{s:Shared}
def askIn (n:Nat) (lt:Nat->Nat->Bool):Nat->Nat->(Bool->Shared->Prop)->Shared->Prop:=λi j C s=>i < n/\j < n/\C (lt i j) s
noncomputable def gt (p:Array Nat) (i:Nat):Nat:=p.getD i 0
def Pm (n:Nat) (p:Array Nat):Prop:=p.Perm (range n).toArray
def Dn (lt:Nat->Nat->Bool) (p:Array Nat) (m:Nat):Prop:=∀ i j,i < j->j < m->lt (gt p i) (gt p j)=false
def Up (lt:Nat->Nat->Bool) (p:Array Nat) (m:Nat):Prop:=∀ i j,i < j->j < m->lt (gt p j) (gt p i)=false
def Eqs (lt:Nat->Nat->Bool) (p:Array Nat) (a b:Nat):Prop:=∀ i j,a<=i->i < b->a<=j->j < b->lt (gt p i) (gt p j)=false
theorem Pm.size {p:Array Nat} (h:Pm n p):p.size=n:=by
 have:=h.size_eq
 simpa using this
theorem Pm.bd {p:Array Nat} (h:Pm n p) (pos:0 < n) (i:Nat):gt p i < n:=by
 unfold gt
 by_cases hi:i < p.size
 ·have:p[i]∈(range n).toArray:=h.mem_iff.mp (Array.getElem_mem hi)
  rw [getD,dif_pos hi]
  simpa using this
 ·rw [getD,dif_neg hi]
  exact pos
theorem fq' {p:Array Nat}{i:Nat}:gt p i=p[i]?.getD 0:=by
 unfold gt
 exact getD_eq_getD_getElem? ..
theorem ci' {p:Array Nat}{i j:Nat} (hj:j<=p.size) (k:Nat):gt (kas_rev p i j) k=if i<=k/\k < j then gt p (i+j - 1 - k) else gt p k:=by
 rw [fq',fq',fq']
 unfold kas_rev
 rw [getElem?_mirror_all hj]
 split<;>rfl
theorem kN' {p:Array Nat}{cu d:Nat} (hs:cu < p.size) (hd:d<=cu) (k:Nat):gt (bubble p cu d) k=if k=cu - d then gt p cu else if cu - d < k/\k<=cu then gt p (k - 1) else gt p k:=by
 simp only [fq']
 rw [getElem?_bubble hs d hd]
 split
 ·rfl
 ·split<;>rfl
theorem Pm.rev {p:Array Nat} (h:Pm n p) (i j:Nat):Pm n (kas_rev p i j):=Array.Perm.trans (mirror_perm _ _ _ _) h
theorem cE' {α:Type}{nJ:Nat->Nat->(Bool->Shared->Prop)->Shared->Prop}{Q:α->Shared->Prop}{P:α->Prop} (hc:∀ i j C,i < n->j < n->C (lt i j) s->nJ i j C s) (hq:∀ a,P a->Q a s):∀ t:KasT α,t.kasWp (askIn n lt) (λa _=>P a) s->t.kasWp nJ Q s
 | .ret a,h=>hq a h
 | .ask i j k,⟨h1,h2,h3⟩=>hc i j _ h1 h2 (cE' hc hq (k (lt i j)) h3)
theorem dP' {α β:Type}{t:KasT α}{f:α->KasT β}{P:α->Prop}{Q:β->Prop} (h:t.kasWp (askIn n lt) (λa _=>P a) s) (k:∀ a,P a->(f a).kasWp (askIn n lt) (λb _=>Q b) s):(t.bind f).kasWp (askIn n lt) (λb _=>Q b) s:=by
 rw [KasT.kasWp_bind]
 exact cE' (λi j C h1 h2 h3=>⟨h1,h2,h3⟩) (λa ha=>k a ha) t h
variable (O:Ord lt) (two:2<=n)
include O
theorem Ord.irr (a:Nat):lt a a=false:=by
 cases h:lt a a with
 | false=>rfl
 | true=>rw [← h];exact O.as a a h
theorem Ord.lt_le {a b c:Nat} (h1:lt a b=true) (h2:lt c b=false):lt a c=true:=by
 cases h:lt a c with
 | true=>rfl
 | false =>
  -- c<=a,b<=c
  have:=O.tr b c a h2 h
  rw [this] at h1;cases h1
include two
theorem hE' {p:Array Nat} (hp:Pm n p):∀ (f m:Nat),1<=m->(kas_asc p f m).kasWp (askIn n lt) (λm' _=>m<=m'/\m'<=m+f/\(∀ k,m<=k->k < m'->lt (gt p k) (gt p (k - 1))=false)/\(m' < m+f->lt (gt p m') (gt p (m' - 1))=true)) s
 | 0,m,_=>by
  rw [kas_asc]
  exact ⟨le_refl _,le_refl _,λk h1 h2=>by omega,λh=>by omega⟩
 | f+1,m,hm=>by
  rw [kas_asc]
  refine ⟨hp.bd (by omega) m,hp.bd (by omega) (m - 1),?_⟩
  cases h:lt (p.getD m 0) (p.getD (m - 1) 0) with
  | true =>
   dsimp only;rw [if_pos rfl]
   exact ⟨le_refl _,by omega,λk h1 h2=>by omega,λ_=>h⟩
  | false =>
   dsimp only;rw [if_neg Bool.false_ne_true]
   refine cE' (λi j C h1 h2 h3=>⟨h1,h2,h3⟩) (λm' h'=>?_) _ (hE' hp f (m+1) (by omega))
   obtain ⟨a1,a2,a3,a4⟩:=h'
   refine ⟨by omega,by omega,λk h1 h2=>?_,λh'=>a4 (by omega)⟩
   by_cases z:k=m
   ·rw [z];exact h
   ·exact a3 k (by omega) h2
omit two in
theorem Up.of_steps {p:Array Nat}{m m':Nat} (hm:Up lt p m) (st:∀ k,m<=k->k < m'->1<=k->lt (gt p k) (gt p (k - 1))=false):Up lt p m':=by
 intro i j
 induction j with
 | zero=>intro h;omega
 | succ j ih =>
  intro bh hj
  by_cases z:j+1 < m
  ·exact hm i (j+1) bh z
  ·have s1:=st (j+1) (by omega) hj (by omega)
   rw [Nat.add_sub_cancel] at s1
   by_cases e:i=j
   ·rw [e];exact s1
   ·exact O.tr _ _ _ (ih (by omega) (by omega)) s1
omit two O in
theorem Dn.up {p:Array Nat}{m:Nat} (hm:m<=p.size) (h:Dn lt p m):Up lt (kas_rev p 0 m) m:=by
 intro i j bh hj
 rw [ci' hm,ci' hm,if_pos ⟨zero_le _,hj⟩,if_pos ⟨zero_le _,by omega⟩]
 exact h _ _ (by omega) (by omega)
omit two O in
theorem Dn.turn {p:Array Nat}{m a:Nat} (hm:m<=p.size) (h:Dn lt p m) (e:Eqs lt p a m):Dn lt (kas_rev p a m) m:=by
 intro i j bh hj
 rw [ci' hm,ci' hm]
 by_cases h1:a<=i
 ·rw [if_pos ⟨h1,by omega⟩,if_pos ⟨by omega,hj⟩]
  exact e _ _ (by omega) (by omega) (by omega) (by omega)
 ·rw [if_neg (by omega)]
  by_cases h2:a<=j
  ·rw [if_pos ⟨h2,hj⟩]
   exact h _ _ (by omega) (by omega)
  ·rw [if_neg (by omega)]
   exact h _ _ bh hj
omit two in
theorem Dn.next {p:Array Nat}{m:Nat} (h:Dn lt p m) (hm:1<=m) (st:lt (gt p (m - 1)) (gt p m)=false):Dn lt p (m+1):=by
 intro i j bh hj
 by_cases z:j < m
 ·exact h i j bh z
 ·have:j=m:=by omega
  subst this
  by_cases e:i=j - 1
  ·rw [e];exact st
  ·exact O.tr _ _ _ st (h i (j - 1) (by omega) (by omega))
theorem ek':∀ (f:Nat) (p:Array Nat) (m q:Nat),Pm n p->1<=m->m+f<=n->q < m->Dn lt p m->Eqs lt p (m - (q+1)) m →
  (kas_desc f p m q).kasWp (askIn n lt) (λr _=>Pm n r.1/\1<=r.2.1/\r.2.1<=n/\r.2.2 < r.2.1/\Dn lt r.1 r.2.1/\Eqs lt r.1 (r.2.1 - (r.2.2+1)) r.2.1) s
 | 0,p,m,q,hp,h1,h2,h3,h4,h5=>by
  rw [kas_desc]
  exact ⟨hp,h1,(by show m<=n;omega),h3,h4,h5⟩
 | f+1,p,m,q,hp,h1,h2,h3,h4,h5=>by
  rw [kas_desc]
  have one:∀ (p':Array Nat),Pm n p'->Eqs lt p' (m+1 - (0+1)) (m+1):=λp' _ i j a b c d=>by
   have:i=m:=by omega
   have:j=m:=by omega
   subst i;subst j
   exact O.irr _
  refine ⟨hp.bd (by omega) m,hp.bd (by omega) (m - 1),?_⟩
  cases h:lt (p.getD m 0) (p.getD (m - 1) 0) with
  | true =>
   dsimp only;rw [if_pos rfl]
   have st:lt (gt p (m - 1)) (gt p m)=false:=O.as _ _ h
   split
   ·have sz:m<=p.size:=by rw [hp.size];omega
    refine ek' f _ (m+1) 0 (hp.rev _ _) (by omega) (by omega) (by omega) (Dn.next O (h4.turn sz h5) h1 ?_) (one _ (hp.rev _ _))
    rw [ci' sz,ci' sz,if_pos ⟨by omega,by omega⟩,if_neg (by omega)]
    refine O.tr _ _ _ st ?_
    exact h5 _ _ (by omega) (by omega) (by omega) (by omega)
   ·exact ek' f _ (m+1) 0 hp (by omega) (by omega) (by omega) (Dn.next O h4 h1 st) (one _ hp)
  | false =>
   dsimp only;rw [if_neg Bool.false_ne_true]
   refine ⟨hp.bd (by omega) (m - 1),hp.bd (by omega) m,?_⟩
   cases h':lt (p.getD (m - 1) 0) (p.getD m 0) with
   | true =>
    dsimp only;rw [if_pos rfl]
    exact ⟨hp,h1,(by show m<=n;omega),h3,h4,h5⟩
   | false =>
    dsimp only;rw [if_neg Bool.false_ne_true]
    refine ek' f p (m+1) (q+1) hp (by omega) (by omega) (by omega) (Dn.next O h4 h1 h') λi j a b c d=>?_
    have up:∀ i,m - (q+1)<=i->i < m->lt (gt p i) (gt p m)=false:=λi x y=>O.tr _ _ _ h' (h5 i (m - 1) x y (by omega) (by omega))
    have dn:∀ i,m - (q+1)<=i->i < m->lt (gt p m) (gt p i)=false:=λi x y=>O.tr _ _ _ (h5 (m - 1) i (by omega) (by omega) x y) h
    by_cases zi:i=m
    ·by_cases zj:j=m
     ·rw [zi,zj];exact O.irr _
     ·rw [zi];exact dn j (by omega) (by omega)
    ·by_cases zj:j=m
     ·rw [zj];exact up i (by omega) (by omega)
     ·exact h5 i j (by omega) (by omega) (by omega) (by omega)
theorem iT' {p:Array Nat}{m:Nat} (hp:Pm n p) (h1:1<=m) (h2:m<=n) (h:Dn lt p m):(kas_tail3 m n p).kasWp (askIn n lt) (λr _=>1<=r.1/\r.1<=n/\Pm n r.2/\Up lt r.2 r.1) s:=by
 unfold kas_tail3
 refine dP' (hE' O two (hp.rev 0 m) (n - m) m h1) λm' ⟨a1,a2,a3,_⟩=>?_
 have up:=h.up (by rw [hp.size];exact h2)
 exact ⟨by omega,by omega,hp.rev 0 m,Up.of_steps O up λk x y _=>a3 k x y⟩
theorem eB' {p:Array Nat}{m:Nat} (hp:Pm n p) (h1:1<=m) (h2:m < n) (h:Dn lt p (m+1)):(kas_descPart m n p).kasWp (askIn n lt) (λr _=>1<=r.1/\r.1<=n/\Pm n r.2/\Up lt r.2 r.1) s:=by
 unfold kas_descPart
 refine dP' (ek' O two (n - (m+1)) p (m+1) 0 hp (by omega) (by omega) (by omega) h λi j a b c d=>?_) λr ⟨b1,b2,b3,b4,b5,b6⟩=>?_
 ·have:i=m:=by omega
  have:j=m:=by omega
  subst i;subst j
  exact O.irr _
 ·split
  ·exact iT' O two (b1.rev _ _) b2 b3 (b5.turn (by rw [b1.size];exact b3) b6)
  ·exact iT' O two b1 b2 b3 b5
theorem eN' {p:Array Nat} (hp:Pm n p):(kas_count n p).kasWp (askIn n lt) (λr _=>1<=r.1/\r.1<=n/\Pm n r.2/\Up lt r.2 r.1) s:=by
 unfold kas_count
 refine dP' (hE' O two hp (n - 1) 1 (le_refl _)) λm ⟨a1,a2,a3,a4⟩=>?_
 have up1:Up lt p m:=Up.of_steps O (m:=1) (λi j x y=>by omega) λk x y z=>a3 k x y
 split
 ·exact ⟨a1,by omega,hp,up1⟩
 ·rename_i ne
  have ne:m≠n:=by simpa using ne
  have last:=a4 (by omega)
  split
  ·refine ⟨hp.bd (by omega) 0,hp.bd (by omega) (m - 1),?_⟩
   cases h:lt (p.getD 0 0) (p.getD (m - 1) 0) with
   | true =>
    dsimp only;rw [if_pos rfl]
    exact ⟨a1,by omega,hp,up1⟩
   | false =>
    dsimp only;rw [if_neg Bool.false_ne_true]
    have all:Eqs lt p 0 m:=λi j x1 x2 y1 y2=>by
     -- the first is not less than the last,and they rise
     have l0:∀ i,i < m->lt (gt p i) (gt p 0)=false:=λi x=>by
      by_cases z:i=0
      ·rw [z];exact O.irr _
      ·exact up1 0 i (by omega) x
     have lz:∀ j,j < m->lt (gt p (m - 1)) (gt p j)=false:=λj x=>by
      by_cases z:j=m - 1
      ·rw [z];exact O.irr _
      ·exact up1 j (m - 1) (by omega) (by omega)
     -- i against j: i<=last<=first<=j,whichever
     have f1:lt (gt p i) (gt p (m - 1))=false:=O.tr _ _ _ h (l0 i x2)
     exact O.tr _ _ _ (lz j y2) f1
    have sz:m<=p.size:=by rw [hp.size];omega
    have all2:Dn lt (kas_rev p 0 m) m:=Dn.turn sz (λi j x y=>all i j (zero_le _) (by omega) (zero_le _) y) all
    refine eB' O two (hp.rev _ _) a1 (by omega) (Dn.next O all2 a1 ?_)
    rw [ci' sz,ci' sz,if_pos ⟨zero_le _,by omega⟩,if_neg (by omega)]
    refine O.tr _ _ _ (O.as _ _ last) ?_
    exact all _ _ (zero_le _) (by omega) (zero_le _) (by omega)
  ·have:m=1:=by omega
   subst this
   exact eB' O two hp (le_refl _) (by omega) (Dn.next O (λi j x y=>by omega) (le_refl _) (O.as _ _ last))
theorem eO' {p:Array Nat}{k:Nat} (hp:Pm n p) (hk:k < n) (up:Up lt p k):∀ (f l r:Nat),l<=r->r<=k->r - l<=f->(∀ i,i < l->lt (gt p k) (gt p i)=false)->(∀ i,r<=i->i < k->lt (gt p k) (gt p i)=true) →
  (kas_place p k f l r).kasWp (askIn n lt) (λl' _=>l'<=k/\(∀ i,i < l'->lt (gt p k) (gt p i)=false)/\∀ i,l'<=i->i < k->lt (gt p k) (gt p i)=true) s
 | 0,l,r,h1,h2,h3,h4,h5=>by
  rw [kas_place]
  exact ⟨by omega,h4,λi x y=>h5 i (by omega) y⟩
 | f+1,l,r,h1,h2,h3,h4,h5=>by
  rw [kas_place]
  split
  ·exact ⟨by omega,h4,λi x y=>h5 i (by omega) y⟩
  ·refine ⟨hp.bd (by omega) k,hp.bd (by omega) _,?_⟩
   cases h:lt (p.getD k 0) (p.getD ((l+r) / 2) 0) with
   | true =>
    dsimp only;rw [if_pos rfl]
    refine eO' hp hk up f l ((l+r) / 2) (by omega) (by omega) (by omega) h4 λi x y=>?_
    by_cases z:i=(l+r) / 2
    ·rw [z];exact h
    ·exact O.lt_le h (up _ _ (by omega) y)
   | false =>
    dsimp only;rw [if_neg Bool.false_ne_true]
    refine eO' hp hk up f ((l+r) / 2+1) r (by omega) (by omega) (by omega) (λi x=>?_) h5
    by_cases z:i=(l+r) / 2
    ·rw [z];exact h
    ·exact O.tr _ _ _ (up i ((l+r) / 2) (by omega) (by omega)) h
theorem kO':∀ (f:Nat) (p:Array Nat) (k:Nat),Pm n p->Up lt p k->1<=k->k+f=n->(kas_bin f p k).kasWp (askIn n lt) (λp' _=>Pm n p'/\Up lt p' n) s
 | 0,p,k,hp,up,h1,h2=>by
  rw [kas_bin]
  have:k=n:=by omega
  subst this
  exact ⟨hp,up⟩
 | f+1,p,k,hp,up,h1,h2=>by
  rw [kas_bin]
  refine dP' (eO' O two hp (by omega) up k 0 k (zero_le _) (le_refl _) (by omega) (λi h=>by omega) λi x y=>by omega) λl ⟨c1,c2,c3⟩=>?_
  refine kO' f _ (k+1) (Array.Perm.trans (bubble_perm _ _ _) hp) (λi j bh hj=>?_) (by omega) (by omega)
  have hk:k < p.size:=by rw [hp.size];omega
  rw [kN' hk (by omega),kN' hk (by omega),show k - (k - l)=l by omega]
  by_cases j1:j=l
  ·rw [if_pos j1,if_neg (by omega),if_neg (by omega)]
   exact c2 i (by omega)
  ·rw [if_neg j1]
   by_cases j2:l < j/\j<=k
   ·rw [if_pos j2]
    by_cases i1:i=l
    ·rw [if_pos i1]
     exact O.as _ _ (c3 (j - 1) (by omega) (by omega))
    ·rw [if_neg i1]
     by_cases i2:l < i/\i<=k
     ·rw [if_pos i2];exact up _ _ (by omega) (by omega)
     ·rw [if_neg i2];exact up _ _ (by omega) (by omega)
   ·rw [if_neg j2,if_neg (by omega),if_neg (by omega)]
    exact up _ _ bh (by omega)
theorem fT':(kas_sort n).kasWp (askIn n lt) (λp _=>Pm n p/\Up lt p n) s:=by
 unfold kas_sort
 refine dP' (eN' O two (p:=(range n).toArray) (Array.Perm.refl _)) λr ⟨a1,a2,a3,a4⟩=>?_
 split
 ·refine kO' O two _ _ _ a3 ?_ (by omega) (by omega)
  rw [Nat.max_eq_left a1]
  exact a4
 ·have:r.1=n:=by omega
  rw [this] at a4
  exact ⟨a3,a4⟩
end
end DL
namespace DL
open PySem PySem.W PySem.Spec PyProof.Rows
section
variable {prog:Program}{w:World}{A:Around}{E:Value->Shared->Prop}{s:Shared}
noncomputable def byP (vs:List Value) (p:Array Nat):List Value:=p.toList.map λi=>vs.getD i Value.none
theorem gq' (vs:List Value):byP vs (range vs.length).toArray=vs:=by
 unfold byP
 refine ext_getElem (by simp) λi h1 h2=>?_
 simp [h2]
theorem oa' {vs:List Value}{p:Array Nat} (h:Pm vs.length p):(byP vs p).length=vs.length:=by
 unfold byP
 rw [length_map,length_toList,h.size]
def KeptBut (a:Addr) (h h':Heap):Prop:=∀ b o,b≠a->h.get? b=some o->h'.get? b=some o
theorem ob' {a:Addr}{vs:List Value}{e:Nat}{κ:SortKind}{lt:Nat->Nat->Bool}{P:PySem.Fin->Shared->Prop} (ho:s.heap.get? a=some (seqObj "list" vs.toArray e)) (bx:vs.length < 64) (O:Ord lt)
  (kind:∀ h' Q,KeptBut a s.heap h'->2<=vs.length->Q κ { s with heap:=h' }->wpAny (model prog w) A (keyKind' vs.toArray) Q E { s with heap:=h' })
  (less:∀ h' i j C,KeptBut a s.heap h'->i < vs.length->j < vs.length->C (lt i j) { s with heap:=h' }->wpAny (model prog w) A (keyLt' κ (vs.getD i Value.none) (vs.getD j Value.none)) C (λ_ _=>False) { s with heap:=h' })
  (fin:∀ p h' c,Pm vs.length p->Up lt p vs.length->KeptBut a s.heap h'->h'.get? a=some (seqObj "list" (byP vs p).toArray c)->P (.done (.ret .none)) { s with heap:=h' }) :
  wpAny (model prog w) A (Builtin.«list.sort» ⟨[.ref a],[]⟩) P E s:=by
 have line:64<=sizeLine:=by rw [sizeLine_eq];decide
 obtain ⟨g1,bQ⟩:∃ g1,g1=s.heap.update a (mapSeq λ_=>(#[]:Array Value)):=⟨_,rfl⟩
 obtain ⟨e1,o1⟩:∃ e1,g1.get? a=some (seqObj "list" #[] e1):=⟨_,by rw [bQ];exact get?_update_seq ho _⟩
 have k1:KeptBut a s.heap g1:=λb o ne x=>by rw [bQ];exact (get?_update_other _ _ (Ne.symm ne)).trans x
 obtain ⟨g2,bR⟩:∃ g2,g2=(g1.push (seqObj "tuple" vs.toArray 0)).push (seqObj "list" #[] 0):=⟨_,rfl⟩
 have o2:g2.get? a=some (seqObj "list" #[] e1):=by rw [bR];exact get?_push_of_some _ (get?_push_of_some _ o1)
 have k2:KeptBut a s.heap g2:=λb o ne x=>by rw [bR];exact get?_push_of_some _ (get?_push_of_some _ (k1 b o ne x))
 have dW:∀ eM,(2<=vs.length->eM=κ)->wpAny (model prog w) A ((if vs.toArray.size < 2 then pure () else sortRuns').run (SortSt.mk' eM (vs.toArray.zip vs.toArray) #[] 7 none))
   (λr s'=>s'={ s with heap:=g2 }/\∃ p,Pm vs.length p/\Up lt p vs.length/\(arrOf r.2).map (·.2)=(byP vs p).toArray/\failedOf r.2=none) E { s with heap:=g2 }:=λeM ke=>by
  rcases lt_or_ge vs.length 2 with bS | big
  ·rw [if_pos (by rw [size_toArray];exact bS)]
   refine wpAny_pure ⟨rfl,(range vs.length).toArray,Array.Perm.refl _,λi j x y=>by omega,?_,rfl⟩
   rw [gq']
   show ((vs.toArray.zip vs.toArray).map (·.2))=_
   refine Array.ext (by simp) λi h1 h2=>by simp
  ·rw [if_neg (by rw [size_toArray];omega),ke big]
   refine kat_run (ks:=vs) (vs:=vs) (G:=λp s'=>(Pm vs.length p/\Up lt p vs.length)/\s'={ s with heap:=g2 }) (Q:=λst s'=>s'={ s with heap:=g2 }/\∃ p,Pm vs.length p/\Up lt p vs.length/\(arrOf st).map (·.2)=(byP vs p).toArray/\failedOf st=none) rfl big bx ?_ ?_
   ·rintro p st s' hz aO aI ⟨⟨hp,up⟩,rfl⟩
    exact ⟨rfl,p,hp,up,kat_snds rfl aO,aI⟩
   ·exact cE' (P:=λp=>Pm vs.length p/\Up lt p vs.length) (λi j C h1 h2 h3=>less g2 i j C k2 h1 h2 h3) (λp hp=>⟨hp,rfl⟩) _ (fT' O big)
 rw [list_sort_plain]
 refine wpAny_bind (listItems_at ho rfl (wpAny_bind (listUpdate_at ho rfl ?_ (by rw [size_toArray];omega) (zero_le _))))
 rw [← bQ]
 refine wpAny_bind (seqEpoch_at o1 rfl (wpAny_bind (wpAny_newTuple (wpAny_bind (wpAny_newList (wpAny_holding ?_) (zero_le _))) (by show vs.length<=_;omega))))
 show wpAny (model prog w) A _ P E { s with heap:=(g1.push (seqObj "tuple" vs.toArray 0)).push (seqObj "list" #[] 0) }
 rw [← bR]
 dsimp only
 rcases lt_or_ge vs.length 2 with bS | big
 all_goals
  first
   | (rw [if_pos (by rw [size_toArray];exact bS)];refine wpAny_bind (wpAny_pure ?_);have step:=dW general' λh=>by omega)
   | (rw [if_neg (by rw [size_toArray];omega)];refine wpAny_bind (kind g2 _ k2 big ?_);have step:=dW κ λ_=>rfl)
  refine wpAny_bind (wpAny_mono step (λr s' h=>?_) λ_ _ x=>x)
  obtain ⟨rfl,p,hp,up,aO,aI⟩:=h
  rw [aO,aI]
  refine wpAny_bind (seqEpoch_at o2 rfl (wpAny_bind (listUpdate_at o2 rfl ?_ (zero_le _) ?_)))
  ·dsimp only
   rw [bne_self_eq_false,if_neg Bool.false_ne_true]
   exact wpAny_pure (fin p _ _ hp up (λb o ne x=>(get?_update_other _ _ (Ne.symm ne)).trans (k2 b o ne x)) (get?_update_seq o2 λ_=>(byP vs p).toArray))
  ·show (byP vs p).toArray.size<=_
   rw [size_toArray,oa' hp]
   omega
theorem dQ' {l:Addr}{vs:List Value}{κ:SortKind}{lt:Nat->Nat->Bool}{Q:Value->Shared->Prop} (bx:vs.length < 64) (O:Ord lt)
  (col:∀ Q':List Value->Shared->Prop,(∀ h' tk,(∀ b o,s.heap.get? b=some o->h'.get? b=some o)->s.heap.objs.size<=h'.objs.size->Q' vs { s with heap:=h',toks:=tk })->wpAny (model prog w) A.in1 (collect (.ref l)) Q' E s)
  (kind:∀ h' tk Q,(∀ b o,s.heap.get? b=some o->h'.get? b=some o)->2<=vs.length->Q κ { s with heap:=h',toks:=tk }->wpAny (model prog w) A.in1.in1 (keyKind' vs.toArray) Q (λ_ _=>False) { s with heap:=h',toks:=tk })
  (less:∀ h' tk i j C,(∀ b o,s.heap.get? b=some o->h'.get? b=some o)->i < vs.length->j < vs.length->C (lt i j) { s with heap:=h',toks:=tk }->wpAny (model prog w) A.in1.in1 (keyLt' κ (vs.getD i Value.none) (vs.getD j Value.none)) C (λ_ _=>False) { s with heap:=h',toks:=tk })
  (fin:∀ p h' tk D c,Pm vs.length p->Up lt p vs.length->(∀ b o,s.heap.get? b=some o->h'.get? b=some o)->s.heap.objs.size<=D->h'.get? D=some (seqObj "list" (byP vs p).toArray c)->Q (.ref D) { s with heap:=h',toks:=tk }) :
  wpAny (model prog w) A (call (.builtin "sorted") [Value.ref l]) Q E s:=by
 have line:64<=sizeLine:=by rw [sizeLine_eq];decide
 refine Calls.call_function_entry kind_sorted plain_sorted entry_sorted (args_sorted1 _) ?_;refine wpAny_bind (m:=checkCount "sorted" 1 1 _) (wpAny_pure (wpAny_bind (col _ λg tk kg above=>wpAny_bind (wpAny_newList ?_ (by omega)))))
 have aJ:(g.push (seqObj "list" vs.toArray 0)).get? g.objs.size=some (seqObj "list" vs.toArray 0):=get?_push_size _ rfl
 have old:∀ (h':Heap),KeptBut g.objs.size (g.push (seqObj "list" vs.toArray 0)) h'->∀ b o,s.heap.get? b=some o->h'.get? b=some o:=λh' k b o x =>
  k b o (ne_of_lt (lt_of_lt_of_le (lt_size x) above)) (get?_push_of_some _ (kg b o x))
 refine wpAny_bind (wpAny_holding (wpAny_call_entry PyProof.Rows.slot_list_sort ⟨_,aJ,rfl⟩ PyProof.Rows.entry_list_sort ?_ (args_list_sort _)))
 refine ob' (s:={ s with heap:=g.push (seqObj "list" vs.toArray 0),toks:=tk }) (lt:=lt) (κ:=κ) aJ bx O (λh' Q' k two q=>wpAny_mono (kind h' tk Q' (old h' k) two q) (λ_ _ x=>x) λ_ _ x=>x.elim) (λh' i j C k=>less h' tk i j C (old h' k)) λp h' c hp up k aG=>?_
 exact ⟨_,rfl,wpAny_pure ⟨_,rfl,fin p h' tk _ c hp up (old h' k) above aG⟩⟩
end
end DL
namespace DL
open PySem PySem.W PySem.Spec PyProof.Rows L2
noncomputable def rk:D->Nat
 | .non=>0
 | .bl _=>1
 | .int _=>2
 | .str _=>3
 | .tup _=>4
 | .lst _=>5
noncomputable def cI (a b:Int):Ordering:=if a < b then .lt else if b < a then .gt else .eq
mutual
noncomputable def cO:D->D->Ordering
 | .int a,.int b=>cI a b
 | .tup xs,.tup ys=>cOA xs ys
 | a,b=>cI (rk a) (rk b)
noncomputable def cOA:List D->List D->Ordering
 | [],[]=>.eq
 | [],_::_=>.lt
 | _::_,[]=>.gt
 | x::xs,y::ys=>(cO x y).then (cOA xs ys)
end
theorem cx' (a b:Int):cI b a=(cI a b).swap:=by
 unfold cI
 by_cases h1:a < b
 ·rw [if_pos h1,if_neg (by omega),if_pos h1];rfl
 ·by_cases h2:b < a
  ·rw [if_pos h2,if_neg h1,if_pos h2];rfl
  ·rw [if_neg h2,if_neg h1,if_neg h1,if_neg h2];rfl
theorem nE' {a b:D} (h:rk a≠rk b):cO a b=cI (rk a) (rk b):=by
 cases a<;>cases b<;>first | rfl | (exact absurd rfl h) | (simp [cO];done)
mutual
theorem fU':∀ a b:D,cO b a=(cO a b).swap
 | .int a,b=>by
  cases b<;>simp only [cO]<;>exact cx' _ _
 | .tup xs,b=>by
  cases b<;>simp only [cO]<;>first | exact cx' _ _ | exact hF' _ _
 | .non,b=>by cases b<;>simp only [cO]<;>exact cx' _ _
 | .bl _,b=>by cases b<;>simp only [cO]<;>exact cx' _ _
 | .str _,b=>by cases b<;>simp only [cO]<;>exact cx' _ _
 | .lst _,b=>by cases b<;>simp only [cO]<;>exact cx' _ _
theorem hF':∀ xs ys:List D,cOA ys xs=(cOA xs ys).swap
 | [],[]=>by simp [cOA]
 | [],_::_=>by simp [cOA]
 | _::_,[]=>by simp [cOA]
 | x::xs,y::ys=>by
  rw [cOA,cOA,fU' x y,hF' xs ys]
  cases cO x y<;>rfl
end
def dl (a b:D):Bool:=cO a b == .lt
def dlA (xs ys:List D):Bool:=cOA xs ys == .lt
theorem jJ' (a b:Int):(cI a b == Ordering.lt)=decide (a < b):=by
 unfold cI
 by_cases h1:a < b
 ·rw [if_pos h1];simp [h1]
 ·rw [if_neg h1]
  split<;>simp [h1]
theorem cF' {a b:Int}:dl (.int a) (.int b)=decide (a < b):=by
 unfold dl
 rw [cO,jJ']
theorem de' {xs ys:List D}:dl (.tup xs) (.tup ys)=dlA xs ys:=by
 unfold dl dlA
 rw [cO]
theorem fr':dlA [] []=false:=by unfold dlA;simp [cOA]
theorem df' {y:D}{ys:List D}:dlA [] (y::ys)=true:=by unfold dlA;simp [cOA]
theorem dR' {y:D}{ys:List D}:dlA (y::ys) []=false:=by unfold dlA;simp [cOA]
theorem dS' {x y:D}{xs ys:List D}:dlA (x::xs) (y::ys)=(dl x y||(!dl y x&&dlA xs ys)):=by
 unfold dlA dl
 rw [cOA,fU' x y]
 cases cO x y<;>simp [Ordering.then,Ordering.swap]
theorem nF' {a b:D} (h:rk a < rk b):dl a b=true:=by
 unfold dl
 rw [nE' (ne_of_lt h),jJ']
 simp;omega
theorem qF' {a b:D} (h:rk b < rk a):dl a b=false:=by
 unfold dl
 rw [nE' (ne_of_gt h),jJ']
 simp;omega
theorem el' {a b:D} (h:rk a=rk b) (h1:rk a≠2) (h2:rk a≠4):dl a b=false:=by
 unfold dl
 cases a<;>cases b<;>first | (simp [rk] at h;done) | (exact absurd rfl h1) | (exact absurd rfl h2) | (simp [cO,cI,rk];done)
mutual
theorem ft':∀ a b c:D,dl b a=false->dl c b=false->dl c a=false:=λa b c h1 h2=>by
 have r1:rk a<=rk b:=Nat.le_of_not_lt λh=>by rw [nF' h] at h1;cases h1
 have r2:rk b<=rk c:=Nat.le_of_not_lt λh=>by rw [nF' h] at h2;cases h2
 rcases lt_or_ge (rk a) (rk c) with h | h
 ·exact qF' h
 ·have e1:rk b=rk a:=by omega
  have e2:rk c=rk a:=by omega
  match a,b,c with
  | .int a,.int b,.int c =>
   rw [cF'] at h1 h2 ⊢
   simp at h1 h2 ⊢
   omega
  | .tup xs,.tup ys,.tup zs =>
   rw [de'] at h1 h2 ⊢
   exact kP' xs ys zs h1 h2
  | .non,_,_=>exact el' e2 (by rw [e2];decide) (by rw [e2];decide)
  | .bl _,_,_=>exact el' e2 (by rw [e2];simp [rk]) (by rw [e2];simp [rk])
  | .str _,_,_=>exact el' e2 (by rw [e2];simp [rk]) (by rw [e2];simp [rk])
  | .lst _,_,_=>exact el' e2 (by rw [e2];simp [rk]) (by rw [e2];simp [rk])
termination_by a b c=>sizeOf a+sizeOf b+sizeOf c
decreasing_by all_goals (simp_wf;omega)
theorem kP':∀ xs ys zs:List D,dlA ys xs=false->dlA zs ys=false->dlA zs xs=false
 | [],_,[],_,_=>fr'
 | [],_,z::zs,_,_=>dR'
 | x::xs,[],_,h1,_=>by rw [df'] at h1;cases h1
 | x::xs,y::ys,[],_,h2=>by rw [df'] at h2;cases h2
 | x::xs,y::ys,z::zs,h1,h2=>by
  simp only [dS',Bool.or_eq_false_iff,Bool.and_eq_false_iff,not_eq_false'] at h1 h2 ⊢
  obtain ⟨a1,a2⟩:=h1
  obtain ⟨b1,b2⟩:=h2
  refine ⟨ft' x y z a1 b1,?_⟩
  cases hx:dl x z with
  | true=>exact .inl rfl
  | false =>
   right
   rcases a2 with a2 | a2
   ·have:=ft' y z x b1 hx
    rw [a2] at this;cases this
   ·rcases b2 with b2 | b2
    ·have:=ft' z x y hx a1
     rw [b2] at this;cases this
    ·exact kP' xs ys zs a2 b2
termination_by xs ys zs=>sizeOf xs+sizeOf ys+sizeOf zs
decreasing_by all_goals (simp_wf;omega)
end
theorem nG' (a b:D) (h:dl a b=true):dl b a=false:=by
 unfold dl at h ⊢
 rw [fU' a b]
 cases e:cO a b<;>rw [e] at h<;>first | rfl | (cases h;done)
theorem hG' (ds:List D):Ord λi j=>dl (ds.getD i .non) (ds.getD j .non):=⟨λa b h=>nG' _ _ h,λa b c h1 h2=>ft' _ _ _ h1 h2⟩
mutual
noncomputable def cmB:D->D->Bool
 | .int _,.int _=>true
 | .tup xs,.tup ys=>cmA xs ys
 | _,_=>false
noncomputable def cmA:List D->List D->Bool
 | x::xs,y::ys=>cmB x y&&cmA xs ys
 | _,_=>true
end
mutual
theorem fu':∀ a b:D,cmB a b=true->deq a b=(!dl a b&&!dl b a)
 | .int a,.int b,_=>by
  rw [cF',cF']
  by_cases h:a=b
  ·simp [deq,h]
  ·rcases Int.lt_or_gt_of_ne h with h' | h'
   ·simp [deq,h,h']
   ·simp [deq,h,h']
 | .tup xs,.tup ys,h=>by
  rw [cmB] at h
  rw [deq,de',de']
  exact iU' xs ys h
 | .non,_,h=>by simp [cmB] at h
 | .bl _,_,h=>by simp [cmB] at h
 | .str _,_,h=>by simp [cmB] at h
 | .lst _,_,h=>by simp [cmB] at h
 | .int _,.non,h=>by simp [cmB] at h
 | .int _,.bl _,h=>by simp [cmB] at h
 | .int _,.str _,h=>by simp [cmB] at h
 | .int _,.tup _,h=>by simp [cmB] at h
 | .int _,.lst _,h=>by simp [cmB] at h
 | .tup _,.non,h=>by simp [cmB] at h
 | .tup _,.bl _,h=>by simp [cmB] at h
 | .tup _,.str _,h=>by simp [cmB] at h
 | .tup _,.int _,h=>by simp [cmB] at h
 | .tup _,.lst _,h=>by simp [cmB] at h
theorem iU':∀ xs ys:List D,cmA xs ys=true->deqA xs ys=(!dlA xs ys&&!dlA ys xs)
 | [],[],_=>by simp [deqA,fr']
 | [],_::_,_=>by simp [deqA,df',dR']
 | _::_,[],_=>by simp [deqA,df',dR']
 | x::xs,y::ys,h=>by
  rw [cmA,and_eq_true] at h
  rw [deqA,fu' x y h.1,iU' xs ys h.2,dS',dS']
  cases h1:dl x y<;>cases h2:dl y x<;>simp
end
mutual
theorem kQ':∀ a b:D,cmB a b=true->deq a b=true->a=b
 | .int a,.int b,_,h=>by simp [deq] at h;rw [h]
 | .tup xs,.tup ys,c,h=>by
  rw [cmB] at c
  rw [deq] at h
  rw [iV' xs ys c h]
 | .non,_,h,_=>by simp [cmB] at h
 | .bl _,_,h,_=>by simp [cmB] at h
 | .str _,_,h,_=>by simp [cmB] at h
 | .lst _,_,h,_=>by simp [cmB] at h
 | .int _,.non,h,_=>by simp [cmB] at h
 | .int _,.bl _,h,_=>by simp [cmB] at h
 | .int _,.str _,h,_=>by simp [cmB] at h
 | .int _,.tup _,h,_=>by simp [cmB] at h
 | .int _,.lst _,h,_=>by simp [cmB] at h
 | .tup _,.non,h,_=>by simp [cmB] at h
 | .tup _,.bl _,h,_=>by simp [cmB] at h
 | .tup _,.str _,h,_=>by simp [cmB] at h
 | .tup _,.int _,h,_=>by simp [cmB] at h
 | .tup _,.lst _,h,_=>by simp [cmB] at h
theorem iV':∀ xs ys:List D,cmA xs ys=true->deqA xs ys=true->xs=ys
 | [],[],_,_=>rfl
 | [],_::_,_,h=>by simp [deqA] at h
 | _::_,[],_,h=>by simp [deqA] at h
 | x::xs,y::ys,c,h=>by
  rw [cmA,and_eq_true] at c
  rw [deqA,and_eq_true] at h
  rw [kQ' x y c.1 h.1,iV' xs ys c.2 h.2]
end
open PySem.SeqAt in
theorem fv' (e lt:Nat->Bool) (d:Bool) (f:Nat->Nat):∀ l:List Nat,ltFrom e lt d (l.map f)=ltFrom (λi=>e (f i)) (λi=>lt (f i)) d l
 | []=>rfl
 | i::l=>by rw [map_cons,ltFrom,ltFrom,fv' e lt d f l]
open PySem.SeqAt in
theorem gr':∀ xs ys:List D,cmA xs ys=true->ltFrom (λj=>deq (xs.getD j .non) (ys.getD j .non)) (λj=>dl (xs.getD j .non) (ys.getD j .non)) (decide (xs.length < ys.length)) (range (min xs.length ys.length))=dlA xs ys
 | [],[],_=>by simp [ltFrom,fr']
 | [],_::_,_=>by simp [ltFrom,df']
 | _::_,[],_=>by simp [ltFrom,dR']
 | x::xs,y::ys,c=>by
  rw [cmA,and_eq_true] at c
  have ih:=gr' xs ys c.2
  rw [length_cons,length_cons,Nat.succ_min_succ,List.range_succ_eq_map,ltFrom,fv',dS']
  have e:ltFrom (λi=>deq ((x::xs).getD i.succ .non) ((y::ys).getD i.succ .non)) (λi=>dl ((x::xs).getD i.succ .non) ((y::ys).getD i.succ .non)) (decide (xs.length+1 < ys.length+1)) (range (min xs.length ys.length))=dlA xs ys:=by
   rw [← ih]
   congr 1
   simp
  rw [e]
  show (if deq x y=true then dlA xs ys else dl x y)=_
  rw [fu' x y c.1]
  cases h1:dl x y<;>cases h2:dl y x<;>simp
theorem kR':∀ (xs ys:List D),cmA xs ys=true->∀ j,j < xs.length->j < ys.length->cmB (xs.getD j .non) (ys.getD j .non)=true
 | [],_,_,j,h,_=>by simp at h
 | _::_,[],_,j,_,h=>by simp at h
 | x::xs,y::ys,c,j,h1,h2=>by
  rw [cmA,and_eq_true] at c
  cases j with
  | zero=>exact c.1
  | succ j=>exact kR' xs ys c.2 j (by simpa using h1) (by simpa using h2)
section
variable {X:Cx}{aa:List (Addr×Obj)}{U:L2.St}{H:Hp}{s:Shared}
open PySem.SeqAt in
theorem qG' (I:Inv X aa U H s):∀ (n:Nat) (A:Around),A.units+n < cLine->∀ (a b:D) (x y:V) (u v:Value),dep a<=n->cmB a b=true->Is X.K H a x->Is X.K H b y->RelV x u->RelV y v->RcLtAt A s u v (dl a b):=by
 intro n
 induction n with
 | zero =>
  intro A hu a b x y u v hd c ha hb ru rv
  cases a<;>cases b<;>simp [cmB] at c
  ·rename_i i j
   rw [al' ha] at ru
   rw [al' hb] at rv
   obtain ⟨t1,rfl⟩:=ru
   obtain ⟨t2,rfl⟩:=rv
   rw [cF']
   exact RcLtAt.int_int _ _ _ _
  ·rw [dep] at hd
   omega
 | succ n ih =>
  intro A hu a b x y u v hd c ha hb ru rv
  cases a<;>cases b<;>simp [cmB] at c
  ·rename_i i j
   rw [al' ha] at ru
   rw [al' hb] at rv
   obtain ⟨t1,rfl⟩:=ru
   obtain ⟨t2,rfl⟩:=rv
   rw [cF']
   exact RcLtAt.int_int _ _ _ _
  ·rename_i ds es
   have eJ:A.in1.units+n < cLine:=by show A.units+1+n < cLine;omega
   obtain ⟨p,xs,rfl,h1,h2⟩:=av' ha
   obtain ⟨q,ys,rfl,h3,h4⟩:=av' hb
   cases ru;cases rv
   obtain ⟨af,r1,t1,_⟩:=I.tuple h1
   obtain ⟨aX,r2,t2,_⟩:=I.tuple h3
   have l1:af.toArray.size=ds.length:=by rw [size_toArray,← r1.length,h2.length]
   have l2:aX.toArray.size=es.length:=by rw [size_toArray,← r2.length,h4.length]
   have two:∀ j (g1:j < af.toArray.size) (g2:j < aX.toArray.size),EqAt A.in1 s af.toArray[j] aX.toArray[j] (deq (ds.getD j .non) (es.getD j .non))/\(deq (ds.getD j .non) (es.getD j .non)=false->RcLtAt A.in1 s af.toArray[j] aX.toArray[j] (dl (ds.getD j .non) (es.getD j .non))):=λj g1 g2=>by
    obtain ⟨v1,q1,q2⟩:=h2.getU r1 g1
    obtain ⟨v2,q3,q4⟩:=h4.getU r2 g2
    have m1:ds.getD j .non∈ds:=by
     rw [getD_eq_getElem?_getD,getElem?_eq_getElem (by omega)]
     exact getElem_mem _
    have k1:=b4' m1
    rw [dep] at hd
    exact ⟨(fm' I n A.in1 eJ _ _ _ _ _ _ (.inl (by omega)) q2 q4 q1 q3).2.1,λ_=>ih A.in1 eJ _ _ _ _ _ _ (by omega) (kR' ds es c j (by omega) (by omega)) q2 q4 q1 q3⟩
   have R1:=RcLtAt.tuples (A:=A) t1 t2 (by omega) two
   rw [l1,l2,gr' ds es c] at R1
   rw [de']
   exact R1
end
end DL
namespace DL
open PySem PySem.W PySem.Spec PyProof.Rows L2
def leD (a b:D):Bool:=!dl b a
def sortD (ds:List D):List D:=ds.mergeSort leD
theorem kS' (a b c:D) (h1:leD a b=true) (h2:leD b c=true):leD a c=true:=by
 unfold leD at *
 simp only [not_eq_true'] at *
 exact ft' a b c h1 h2
theorem iW' (a b:D):(leD a b||leD b a)=true:=by
 unfold leD
 cases h:dl b a with
 | false=>rfl
 | true=>rw [nG' b a h];rfl
theorem jK' (ds:List D):(sortD ds).Perm ds:=List.mergeSort_perm ds leD
theorem mv' (ds:List D):(sortD ds).Pairwise λa b=>leD a b=true:=List.pairwise_mergeSort kS' iW' ds
theorem hH':∀ (l m:List D),l.Perm m->(l.Pairwise λa b=>leD a b=true)->(m.Pairwise λa b=>leD a b=true)->(∀ a∈l,∀ b∈l,leD a b=true->leD b a=true->a=b)->l=m
 | [],m,p,_,_,_=>by rw [List.nil_perm.mp p]
 | a::l,[],p,_,_,_=>by have:=p.length_eq;simp at this
 | a::l,b::m,p,h1,h2,an=>by
  have e:a=b:=by
   have ia:a∈b::m:=p.mem_iff.mp mem_cons_self
   have ib:b∈a::l:=p.mem_iff.mpr mem_cons_self
   rcases mem_cons.mp ia with h | h
   ·exact h
   ·rcases mem_cons.mp ib with h' | h'
    ·exact h'.symm
    ·exact an a mem_cons_self b ib ((pairwise_cons.mp h1).1 b h') ((pairwise_cons.mp h2).1 a h)
  subst e
  rw [hH' l m ((List.perm_cons a).mp p) (pairwise_cons.mp h1).2 (pairwise_cons.mp h2).2 λx hx y hy=>an x (mem_cons_of_mem _ hx) y (mem_cons_of_mem _ hy)]
noncomputable def permD (p:Array Nat) (ds:List D):List D:=p.toList.map λi=>ds.getD i .non
noncomputable def permV (p:Array Nat) (zs:List V):List V:=p.toList.map λi=>zs.getD i .non
noncomputable def cmAll (ds:List D):Bool:=ds.all λa=>ds.all λb=>cmB a b
theorem kT' {ds:List D}{p:Array Nat} (hp:Pm ds.length p) (up:Up (λi j=>dl (ds.getD i .non) (ds.getD j .non)) p ds.length) (cm:cmAll ds=true):permD p ds=sortD ds:=by
 have pm:(permD p ds).Perm ds:=by
  have h1:p.toList.Perm (range ds.length):=by
   have:=perm_iff_toList_perm.mp hp
   simpa using this
  have h2:=h1.map λi=>ds.getD i .non
  have h3:((range ds.length).map λi=>ds.getD i .non)=ds:=by
   refine ext_getElem (by simp) λi h1 h2=>?_
   simp [h2]
  rw [h3] at h2
  exact h2
 have rh:∀ a∈permD p ds,∀ b∈permD p ds,cmB a b=true:=λa ha b hb=>by
  have:=all_eq_true.mp cm a (pm.mem_iff.mp ha)
  exact all_eq_true.mp this b (pm.mem_iff.mp hb)
 refine hH' _ _ (pm.trans (jK' ds).symm) ?_ (mv' ds) λa ha b hb h1 h2=>?_
 ·rw [pairwise_iff_getElem]
  intro i j hi hj bh
  unfold permD at hi hj ⊢
  rw [length_map,length_toList,hp.size] at hi hj
  have:=up i j bh hj
  simp only [getElem_map,Array.getElem_toList]
  unfold gt at this
  rw [getD,dif_pos (by rw [hp.size];exact hj),getD,dif_pos (by rw [hp.size];exact hi)] at this
  unfold leD
  rw [not_eq_true']
  exact this
 ·have c:=rh a ha b hb
  refine kQ' a b c ?_
  rw [fu' a b c]
  unfold leD at h1 h2
  rw [h1,h2]
  rfl
section
variable {X:Cx}{aa:List (Addr×Obj)}{U:L2.St}{H:Hp}{s:Shared}{A:Around}
noncomputable def fstI:D->Bool
 | .tup (.int _::_)=>true
 | _=>false
noncomputable def fstT:D->Bool
 | .tup (.tup _::_)=>true
 | _=>false
noncomputable def isInt:D->Bool
 | .int _=>true
 | _=>false
theorem kU' (I:Inv X aa U H s){prog:Program}{w:World}{n:Nat}{b fin:Bool}{Q:Bool->Shared->Prop} (hu:A.units+n < cLine):∀ (ds es:List D) (xs ys:List V) (us vs:List Value) (i:Nat),IsA X.K H ds xs->IsA X.K H es ys->Vals xs us->Vals ys vs →
  depA ds<=n->cmA ds es=true->fin=decide (ds.length < es.length)->(b=true->i=0->∀ d e r r',ds=d::r->es=e::r'->isInt d=true/\isInt e=true)->Q (dlA ds es) s->KatLex prog w A b fin Q (us.zip vs) i s
 | [],es,xs,ys,us,vs,i,h1,h2,h3,h4,hd,c,hf,fl,q=>by
  have:=h1.nil_inv;subst this
  cases h3
  rw [List.zip_nil_left]
  refine kat_nil ?_
  rw [hf]
  cases es with
  | nil=>rw [fr'] at q;exact q
  | cons e es=>rw [df'] at q;simpa using q
 | d::ds,[],xs,ys,us,vs,i,h1,h2,h3,h4,hd,c,hf,fl,q=>by
  have:=h2.nil_inv;subst this
  cases h4
  rw [List.zip_nil_right]
  refine kat_nil ?_
  rw [hf]
  rw [dR'] at q
  simpa using q
 | d::ds,e::es,xs,ys,us,vs,i,h1,h2,h3,h4,hd,c,hf,fl,q=>by
  obtain ⟨x,xr,rfl,a1,a2⟩:=h1.cons_inv
  obtain ⟨y,yr,rfl,b1,b2⟩:=h2.cons_inv
  cases h3 with
  | cons r1 r2 =>
   cases h4 with
   | cons s1 s2 =>
    rename_i u rj v gN
    rw [depA] at hd
    rw [cmA,and_eq_true] at c
    rw [dS'] at q
    have eq:=(fm' I n A hu d e x y u v (.inl (by omega)) a1 b1 r1 s1).2.1
    have lt:=qG' I n A hu d e x y u v (by omega) c.1 a1 b1 r1 s1
    have ed:=fu' d e c.1
    rw [List.zip_cons_cons]
    refine kat_cons (eq prog w _ _ (kat_go (λh=>kat_yes ?_) λh=>kat_no ?_))
    ·refine kU' I hu ds es xr yr rj gN (i+1) a2 b2 r2 s2 (by omega) c.2 (by rw [hf];simp) (λ_ z=>by omega) ?_
     rw [h] at ed
     have ed:=ed.symm
     simp only [and_eq_true,not_eq_true'] at ed
     rw [ed.1,ed.2] at q
     simpa using q
    ·have q':Q (dl d e) s:=by
      rw [h] at ed
      cases h1:dl d e with
      | true=>rw [h1] at q;simpa using q
      | false =>
       rw [h1] at ed q
       cases h2:dl e d with
       | true=>rw [h2] at q;simpa using q
       | false=>rw [h2] at ed;cases ed
     by_cases z:b=true/\i=0
     ·obtain ⟨zb,zi⟩:=z
      obtain ⟨f1,f2⟩:=fl zb zi d e ds es rfl rfl
      subst zb;subst zi
      cases d<;>simp [isInt] at f1
      cases e<;>simp [isInt] at f2
      rw [al' a1] at r1
      rw [al' b1] at s1
      obtain ⟨t1,rfl⟩:=r1
      obtain ⟨t2,rfl⟩:=s1
      show wpAny _ _ (oneLt' true _ _) _ _ _
      rw [← keyLt'_oneType]
      rw [cF'] at q'
      exact kat_lt_int q'
     ·have:(b&&i == 0)=false:=by
       cases b
       ·rfl
       ·simp at z ⊢
        exact z
      rw [this]
      exact kat_one _ _ (lt prog w _ _ q')
theorem at_k {ds:List D}{zs:List V}{vs:List Value} (h:IsA X.K H ds zs) (r:Vals zs vs){k:Nat} (hk:k < vs.length):∃ x,Is X.K H (ds.getD k .non) x/\RelV x (vs.getD k .none)/\ds.getD k .non∈ds/\zs[k]?=some x:=by
 have l1:=h.length
 have l2:=r.length
 have dX:k < ds.length:=by omega
 obtain ⟨x,e1,e2⟩:=h.get (getElem?_eq_getElem dX)
 obtain ⟨u,e3,e4⟩:=r.get e1
 refine ⟨x,?_,?_,?_,e1⟩
 ·rw [getD_eq_getElem?_getD,getElem?_eq_getElem dX];exact e2
 ·rw [getD_eq_getElem?_getD,e3];exact e4
 ·rw [getD_eq_getElem?_getD,getElem?_eq_getElem dX];exact getElem_mem _
theorem fV' (I:Inv X aa U H s) (prog:Program) (w:World) (P:D->Bool) (T:Value) (hP:∀ d,P d=true->∃ f r,d=.tup (f::r)/\∀ x u,Is X.K H f x->RelV x u->Looks (model prog w) s.heap (typeOf u) T) :
  ∀ (ds:List D) (zs:List V) (vs:List Value),IsA X.K H ds zs->Vals zs vs->ds.all P=true->∃ fs,KatTups s.heap vs fs/\fs.length=vs.length/\∀ v∈fs,Looks (model prog w) s.heap (typeOf v) T
 | [],zs,vs,h,r,_=>by
  have:=h.nil_inv;subst this
  cases r
  exact ⟨[],KatTups.nil,rfl,λv hv=>nomatch hv⟩
 | d::ds,zs,vs,h,r,ok=>by
  obtain ⟨x,zr,rfl,h1,h2⟩:=h.cons_inv
  rw [all_cons,and_eq_true] at ok
  cases r with
  | cons r1 r2 =>
   obtain ⟨fs,k1,k2,k3⟩:=fV' I prog w P T hP ds zr _ h2 r2 ok.2
   obtain ⟨f,aB,rfl,look⟩:=hP d ok.1
   obtain ⟨a,ys,rfl,g1,g2⟩:=av' h1
   cases r1
   obtain ⟨af,q1,q2,_⟩:=I.tuple g1
   obtain ⟨y,yr,rfl,g3,g4⟩:=g2.cons_inv
   cases q1 with
   | cons q3 q4 =>
    obtain ⟨o,e1,e2,n,e3⟩:=q2
    refine ⟨_::fs,KatTups.cons e1 e2 e3 rfl k1,by simp [k2],λv hv=>?_⟩
    rcases mem_cons.mp hv with rfl | hv
    ·exact look y _ g3 q3
    ·exact k3 v hv
def SortOk (ds:List D):Prop:=ds.length < 64/\cmAll ds=true/\depA ds<=50/\(ds.all isInt=true\/ds.all fstI=true\/ds.all fstT=true)
theorem ir' (hu:X.A.units+100 < cLine){l:Addr}{ds:List D}{zs:List V}{af:List Value}{Q:VK} (I:Inv X aa U H s) (ha:IsA X.K H ds zs) (rv:Vals zs af) (ok:SortOk ds)
  (col:∀ Q':List Value->Shared->Prop,(∀ h' tk,(∀ b o,s.heap.get? b=some o->h'.get? b=some o)->s.heap.objs.size<=h'.objs.size->Q' af { s with heap:=h',toks:=tk })->wpAny (model X.prog X.w) X.A.in1 (collect (.ref l)) Q' X.xe s)
  (k:∀ l q,Pm ds.length q->permD q ds=sortD ds->H l=none->Q (.ref l) (upd H l (.lst (permV q zs)))):wpAny (model X.prog X.w) X.A (call (.builtin "sorted") [.ref l]) (EP X aa U Q) X.xe s:=by
 obtain ⟨bx,cm,dp,kd⟩:=ok
 have l1:=ha.length
 have l2:=rv.length
 have n1:af.length=ds.length:=by omega
 have nK:∀ i j,i < af.length->j < af.length->cmB (ds.getD i .non) (ds.getD j .non)=true:=λi j hi hj=>by
  obtain ⟨_,_,_,mi,_⟩:=at_k ha rv hi
  obtain ⟨_,_,_,mj,_⟩:=at_k ha rv hj
  exact all_eq_true.mp (all_eq_true.mp cm _ mi) _ mj
 have ak:∀ q h' tk D c,Pm af.length q->Up (λi j=>dl (ds.getD i .non) (ds.getD j .non)) q af.length->(∀ b o,s.heap.get? b=some o->h'.get? b=some o)->s.heap.objs.size<=D->h'.get? D=some (seqObj "list" (byP af q).toArray c)->EP X aa U Q (.ref D) { s with heap:=h',toks:=tk }:=λq h' tk D c hp up keep above aG=>by
  rw [n1] at hp up
  have hv:Vals (permV q zs) (byP af q):=by
   refine cw' (by simp [permV,byP]) λi x u e1 e2=>?_
   obtain ⟨j,f1,rfl⟩:=getMap e1
   obtain ⟨j',f2,rfl⟩:=getMap e2
   rw [f1] at f2
   cases f2
   have hj:j < ds.length:=by
    have h1:j∈q.toList:=mem_of_getElem? f1
    have h2:=(perm_iff_toList_perm.mp hp).mem_iff.mp h1
    simpa using h2
   obtain ⟨x,_,e4,_,e5⟩:=at_k ha rv (k:=j) (by omega)
   rw [getD_eq_getElem?_getD,e5]
   exact e4
  refine ⟨.ref D,_,I.laid (t':=tk) keep above (o:=.lst (permV q zs)) ⟨?_,byP af q,c,hv,aG⟩,rfl,k D q hp (kT' hp up cm) (I.hok.fresh above)⟩
  show (permV q zs).length<=sizeLine
  rw [permV,length_map,length_toList,hp.size,sizeLine_eq]
  omega
 have gR:∀ (b:Bool) (P:D->Bool),(∀ d,P d=true->∃ f r,d=.tup (f::r)/\(b=true->isInt f=true))->ds.all P=true->∀ h' tk i j C,(∀ b o,s.heap.get? b=some o->h'.get? b=some o)->i < af.length->j < af.length->C (dl (ds.getD i .non) (ds.getD j .non)) { s with heap:=h',toks:=tk } →
   wpAny (model X.prog X.w) X.A.in1.in1 (keyLt' (tuples' b) (af.getD i Value.none) (af.getD j Value.none)) C (λ_ _=>False) { s with heap:=h',toks:=tk }:=λb P hP all h' tk i j C keep hi hj hc=>by
  have I':Inv X aa U H { s with heap:=h',toks:=tk }:=I.kept (t':=tk) keep
  obtain ⟨x,a1,a2,a3,_⟩:=at_k ha rv hi
  obtain ⟨y,b1,b2,b3,_⟩:=at_k ha rv hj
  have cc:=nK i j hi hj
  have dq:=b4' a3
  obtain ⟨f1,r1,e1,g1⟩:=hP _ (all_eq_true.mp all _ a3)
  obtain ⟨f2,r2,e2,g2⟩:=hP _ (all_eq_true.mp all _ b3)
  rw [e1] at a1 cc hc dq
  rw [e2] at b1 cc hc
  obtain ⟨pa,xs,rfl,x1,x2⟩:=av' a1
  obtain ⟨pb,ys,rfl,y1,y2⟩:=av' b1
  generalize af.getD i Value.none=ui at a2
  generalize af.getD j Value.none=uj at b2
  cases a2;cases b2
  obtain ⟨us,q1,q2,_⟩:=I'.tuple x1
  obtain ⟨vs,q3,q4,_⟩:=I'.tuple y1
  obtain ⟨oa,m1,m2,na,m3⟩:=q2
  obtain ⟨ob,m4,m5,nb,m6⟩:=q4
  rw [de'] at hc
  rw [cmB] at cc
  rw [dep] at dq
  refine kat_lt m1 m3 m4 m6 (kU' I' (n:=50) (by show X.A.units+1+1+50 < cLine;omega) _ _ xs ys _ _ 0 x2 y2 q1 q3 (by omega) cc ?_ (λzb _ d e rr vt z1 z2=>?_) hc)
  ·have:=x2.length;have:=y2.length;have:=q1.length;have:=q3.length
   simp only [size_toArray]
   congr 1
   apply propext
   constructor<;>intro _<;>omega
  ·cases z1;cases z2
   exact ⟨g1 zb,g2 zb⟩
 rcases kd with kd | kd | kd
 ·-- bg numbers
  have kf:∀ k,k < af.length->∃ i t,af.getD k Value.none=.int i t/\ds.getD k .non=.int i:=λk hk=>by
   obtain ⟨x,a1,a2,a3,_⟩:=at_k ha rv hk
   have:=all_eq_true.mp kd _ a3
   cases e:ds.getD k .non<;>rw [e] at this a1<;>simp [isInt] at this
   rw [al' a1] at a2
   obtain ⟨t,a2⟩:=a2
   exact ⟨_,t,a2,rfl⟩
  refine dQ' (κ:=oneType') (lt:=λi j=>dl (ds.getD i .non) (ds.getD j .non)) (by omega) (hG' ds) col (λh' tk Q' keep two q=>?_) (λh' tk i j C keep hi hj hc=>?_) ak
  ·refine kas_kind (T:=.type "int") two (λv hv=>?_) (by decide) (by decide) q
   obtain ⟨k,hk,rfl⟩:=List.getElem_of_mem hv
   obtain ⟨i,t,e,_⟩:=kf k hk
   rw [getD_eq_getElem?_getD,getElem?_eq_getElem hk] at e
   change af[k]=_ at e
   rw [e]
   exact Looks.now
  ·obtain ⟨a,t1,e1,f1⟩:=kf i hi
   obtain ⟨b,t2,e2,f2⟩:=kf j hj
   rw [f1,f2,cF'] at hc
   rw [e1,e2]
   exact kat_lt_int hc
 ·-- tuples that begin with a bg number
  refine dQ' (κ:=tuples' true) (lt:=λi j=>dl (ds.getD i .non) (ds.getD j .non)) (by omega) (hG' ds) col (λh' tk Q' keep two q=>?_) (λh' tk i j C keep hi hj hc=>gR true fstI (λd hd=>?_) kd h' tk i j C keep hi hj hc) ak
  ·have I':Inv X aa U H { s with heap:=h',toks:=tk }:=I.kept (t':=tk) keep
   obtain ⟨fs,k1,k2,k3⟩:=fV' I' X.prog X.w fstI (.type "int") (λd hd=>by
    unfold fstI at hd
    split at hd
    ·refine ⟨_,_,rfl,λx u hx hr=>?_⟩
     rw [al' hx] at hr
     obtain ⟨t,rfl⟩:=hr
     exact Looks.now
    ·cases hd) ds zs af ha rv kd
   exact kat_kind k1 (by omega) k3 (by decide) q
  ·unfold fstI at hd
   split at hd
   ·exact ⟨_,_,rfl,λ_=>rfl⟩
   ·cases hd
 ·-- tuples that begin with a tuple
  refine dQ' (κ:=tuples' false) (lt:=λi j=>dl (ds.getD i .non) (ds.getD j .non)) (by omega) (hG' ds) col (λh' tk Q' keep two q=>?_) (λh' tk i j C keep hi hj hc=>gR false fstT (λd hd=>?_) kd h' tk i j C keep hi hj hc) ak
  ·have I':Inv X aa U H { s with heap:=h',toks:=tk }:=I.kept (t':=tk) keep
   obtain ⟨fs,k1,k2,k3⟩:=fV' I' X.prog X.w fstT (.type "tuple") (λd hd=>by
    unfold fstT at hd
    split at hd
    ·refine ⟨_,_,rfl,λx u hx hr=>?_⟩
     obtain ⟨a,ys,rfl,g1,g2⟩:=av' hx
     cases hr
     obtain ⟨aX,q1,q2,_⟩:=I'.tuple g1
     obtain ⟨o,e1,e2,n,e3⟩:=q2
     have look:Looks (model X.prog X.w) h' (typeOf (.ref a)) o.cls:=(Looks.ld e1).andThen .now
     rw [e2] at look
     exact look
    ·cases hd) ds zs af ha rv kd
   exact kat_kind k1 (by omega) k3 (by decide) q
  ·unfold fstT at hd
   split at hd
   ·exact ⟨_,_,rfl,λh=>by cases h⟩
   ·cases hd
theorem hI' (hu:X.A.units+100 < cLine):CallR X (.builtin "sorted") (λxs H Q=>∃ (p:Addr) (zs:List V) (ds:List D),xs=[.ref p]/\SqL X.K H p zs/\IsA X.K H ds zs/\SortOk ds/\∀ l q,Pm ds.length q->permD q ds=sortD ds->H l=none->Q (.ref l) (upd H l (.lst (permV q zs)))):=by
 intro aa s U H xs us Q I r h
 obtain ⟨p,zs,ds,rfl,hq,ha,ok,k⟩:=h
 obtain ⟨u,rfl,ru⟩:=vals1 r
 cases ru
 obtain ⟨af,rv,t,hz⟩:=I.list hq
 have l1:=ha.length
 have l2:=rv.length
 have line:64<=sizeLine:=by rw [sizeLine_eq];decide
 refine ir' hu I ha rv ok (λQ' q=>collect_list t.isList (q _ s.toks (λb o x=>?_) ?_) (by have:=ok.1;omega)) k
 ·exact (get?_update_other _ _ (Ne.symm (ne_of_lt (lt_size x)))).trans (get?_push_of_some _ x)
 ·rw [size_update,size_push']
  exact le_succ _
end
section
variable {X:Cx}{B:BB}{e:Expr}{pos:Pos}{kr:Nat}
noncomputable def sortF (ds:List D):Option (List D):=match ds with
 | [.lst xs]=>if xs.length < 64/\cmAll xs=true/\depA xs<=50/\(xs.all isInt=true\/xs.all fstI=true\/xs.all fstT=true) then some (sortD xs) else none
 | _=>none
theorem IsA.perm {K:PySem.W.Frag}{I:Hp}{ds:List D}{zs:List V}{q:Array Nat} (h:IsA K I ds zs) (hp:Pm ds.length q):IsA K I (permD q ds) (permV q zs):=by
 have low:∀ j∈q.toList,j < ds.length:=λj hj=>by
  have:=(perm_iff_toList_perm.mp hp).mem_iff.mp hj
  simpa using this
 unfold permD permV
 clear hp
 generalize q.toList=js at low
 induction js with
 | nil=>exact IsA.nil
 | cons j js ih =>
  rw [map_cons,map_cons]
  refine IsA.cons ?_ (ih λi hi=>low i (mem_cons_of_mem _ hi))
  have hj:=low j mem_cons_self
  obtain ⟨x,e1,e2⟩:=h.get (getElem?_eq_getElem hj)
  rw [getD_eq_getElem?_getD,getD_eq_getElem?_getD,e1,getElem?_eq_getElem hj]
  exact e2
theorem kV' {p:Pos}{t:M (List D)} (hr:Room kr X.A) (hg:Gl X "sorted") (hm:X.mg "sorted"=none) (ha:AD X B [e] t) (he:starEach [e] X.env=(false,eval e X.env)::starEach [] X.env:=by rfl) (aA:(backTo pos (starEach [] X.env)).any (·.1)=false:=by rfl) :
  EO X B (.Call (.Name "sorted" p) [e] [] pos) (fn1 sortF t):=pE' (hI' (hu100 hr)) (λds d e B G I H U Z xs Q r h k=>by
 unfold sortF at e
 split at e
 ·obtain ⟨ok,rfl⟩:=aq' e
  obtain ⟨x,rfl,hx⟩:=h.one
  obtain ⟨q,zs,rfl,h3,h4⟩:=ar' hx
  refine ⟨q,zs,_,rfl,(Same.rdK r.iH h3).sq,h4.mono r.iH,ok,λl q' hp es hl=>?_⟩
  refine k.new r hl ?_
  rw [← es]
  exact h4.perm hp
 ·cases e) hg hm boot_sorted ha (by decide) (by decide) he aA
end
end DL
namespace DL
open PySem PySem.SetTable
def Ris (xs:Array Nat):Prop:=∀ i j (hi:i < xs.size) (hj:j < xs.size),i < j->xs[i] < xs[j]
theorem eP' {xs:Array Nat} (R:Ris xs) (j:Nat):∀ (f lo hi:Nat),hi<=xs.size->lo<=hi->hi - lo<=f->(∀ i (h:i < xs.size),i < lo->xs[i] < j)->(∀ i (h:i < xs.size),hi<=i->j<=xs[i]) →
  (below.go xs j f lo hi<=xs.size/\(∀ i (h:i < xs.size),i < below.go xs j f lo hi->xs[i] < j)/\∀ i (h:i < xs.size),below.go xs j f lo hi<=i->j<=xs[i])
 | 0,lo,hi,h1,h2,h3,h4,h5=>by
  rw [below.go]
  exact ⟨by omega,h4,λi h x=>h5 i h (by omega)⟩
 | f+1,lo,hi,h1,h2,h3,h4,h5=>by
  rw [below.go]
  split
  ·have hm:(lo+hi) / 2 < xs.size:=by omega
   have e:xs.getD ((lo+hi) / 2) j=xs[(lo+hi) / 2]:=by rw [getD,dif_pos hm];rfl
   dsimp only
   rw [e]
   split
   ·rename_i lt
    refine eP' R j f ((lo+hi) / 2+1) hi h1 (by omega) (by omega) (λi h x=>?_) h5
    by_cases z:i=(lo+hi) / 2
    ·subst z;exact lt
    ·exact lt_trans (R i _ h hm (by omega)) lt
   ·rename_i vv
    refine eP' R j f lo ((lo+hi) / 2) (by omega) (by omega) (by omega) h4 λi h x=>?_
    by_cases z:i=(lo+hi) / 2
    ·subst z;omega
    ·have:=R _ i hm h (by omega);omega
  ·exact ⟨by omega,h4,λi h x=>h5 i h (by omega)⟩
theorem dv' {xs:Array Nat} (R:Ris xs) (j:Nat):below xs j<=xs.size/\(∀ i (h:i < xs.size),i < below xs j->xs[i] < j)/\∀ i (h:i < xs.size),below xs j<=i->j<=xs[i] :=
 eP' R j xs.size 0 xs.size (le_refl _) (zero_le _) (le_refl _) (λi h x=>by omega) λi h x=>by omega
theorem mw' {xs:Array Nat} (R:Ris xs){i:Nat} (h:i < xs.size):below xs xs[i]=i:=by
 obtain ⟨b1,b2,b3⟩:=dv' R xs[i]
 rcases Nat.lt_trichotomy (below xs xs[i]) i with l | l | l
 ·have:=b3 (below xs xs[i]) (by omega) (le_refl _)
  have:=R _ i (by omega) h l
  omega
 ·exact l
 ·have:=b2 i h l
  omega
section
variable {t:SetTable}
theorem kW' (R:Ris t.place){i:Nat} (h:i < t.place.size):t.slot t.place[i]=.live i:=by
 unfold slot
 dsimp only
 rw [mw' R h,Array.getElem?_eq_getElem h]
 simp
theorem kX' (R:Ris t.place) (hd:t.dummies=#[]){j:Nat} (h:j∉t.place):t.slot j=.empty:=by
 unfold slot
 dsimp only
 have e:¬ (t.place[below t.place j]? == some j)=true:=by
  intro z
  have z:t.place[below t.place j]?=some j:=by simpa using z
  exact h (Array.mem_of_getElem? z)
 rw [if_neg e]
 unfold has
 rw [hd]
 simp
noncomputable def hd (m i p:Nat):Probe:=⟨i,runEnd m i - i,i,p,none⟩
noncomputable def adv (m:Nat) (p:Probe):Probe:=match p with
 | ⟨j,k+1,i,q,d⟩=>⟨j+1,k,i,q,d⟩
 | ⟨_,0,i,q,d⟩=>⟨(leap m i q).1,runEnd m (leap m i q).1 - (leap m i q).1,(leap m i q).1,(leap m i q).2,d⟩
noncomputable def pth (m:Nat) (h:Int):Nat->Probe
 | 0=>hd m (bits h % (m+1)) (bits h)
 | k+1=>adv m (pth m h k)
theorem kY' (h:Int):t.probeStart h=pth t.mask h 0:=rfl
theorem mx' (h:Int) (k:Nat):t.advance (pth t.mask h k)=pth t.mask h (k+1):=by
 rw [pth]
 rcases pth t.mask h k with ⟨j,more,i,q,d⟩
 cases more<;>rfl
theorem gs' (m:Nat) (h:Int):∀ k,(pth m h k).dummy=none
 | 0=>rfl
 | k+1=>by
  have ih:=gs' m h k
  rw [pth]
  revert ih
  rcases pth m h k with ⟨j,more,i,q,d⟩
  intro ih
  cases more<;>exact ih
def sl (m:Nat) (h:Int) (k:Nat):Nat:=(pth m h k).j
theorem fW' {m:Nat}{h:Int}{c i p:Nat} (e:pth m h c=hd m i p):∀ d,d<=runEnd m i - i->pth m h (c+d)=⟨i+d,runEnd m i - i - d,i,p,none⟩
 | 0,_=>e
 | d+1,bj=>by
  have ih:=fW' e d (by omega)
  rw [← Nat.add_assoc,pth,ih]
  obtain ⟨k,hk⟩:∃ k,runEnd m i - i - d=k+1:=⟨runEnd m i - i - d - 1,by omega⟩
  rw [hk,show runEnd m i - i - (d+1)=k by omega]
  rfl
theorem hJ' {m:Nat}{h:Int}{c i p:Nat} (e:pth m h c=hd m i p):pth m h (c+(runEnd m i - i)+1)=hd m (leap m i p).1 (leap m i p).2:=by
 have:=fW' e (runEnd m i - i) (le_refl _)
 rw [pth,this,Nat.sub_self]
 rfl
theorem pT' (m i:Nat):runEnd m i - i<=9:=by
 unfold runEnd
 split<;>omega
noncomputable def lp (m:Nat):Nat->Nat->Nat->Nat×Nat
 | 0,i,p=>(i,p)
 | n+1,i,p=>lp m n (leap m i p).1 (leap m i p).2
theorem kZ' {m:Nat}{h:Int}:∀ (n c i p:Nat),pth m h c=hd m i p->∃ c',c<=c'/\c'<=c+10*n/\pth m h c'=hd m (lp m n i p).1 (lp m n i p).2
 | 0,c,i,p,e=>⟨c,le_refl _,by omega,e⟩
 | n+1,c,i,p,e=>by
  obtain ⟨c',h1,h2,h3⟩:=kZ' n _ _ _ (hJ' e)
  have:=pT' m i
  exact ⟨c',by omega,by omega,h3⟩
theorem dg' (m:Nat):∀ (a b i p:Nat),lp m (a+b) i p=lp m b (lp m a i p).1 (lp m a i p).2
 | 0,b,i,p=>by rw [zero_add];rfl
 | a+1,b,i,p=>by rw [Nat.succ_add,lp,dg' m a b];rfl
theorem dw' (m:Nat):∀ (n i p:Nat),(lp m n i p).2=p / 32 ^ n
 | 0,i,p=>by simp [lp]
 | n+1,i,p=>by
  rw [lp,dw' m n]
  show (p / 32) / 32 ^ n=_
  rw [Nat.div_div_eq_div_mul,Nat.pow_succ,Nat.mul_comm]
theorem nH' {m:Nat}:∀ (n i p:Nat),i < m+1->(lp m n i p).1 < m+1
 | 0,i,p,h=>h
 | n+1,i,p,h=>by
  rw [lp]
  exact nH' n _ _ (mod_lt _ (succ_pos _))
theorem od' (h:Int):bits h < 2 ^ 64:=by
 unfold bits
 have h1:=emod_lt_of_pos h (b:=2 ^ 64) (by decide)
 have h2:=emod_nonneg h (b:=2 ^ 64) (by decide)
 omega
def Round (m:Nat):Prop:=∀ i,i < m+1->∀ j,j < m+1->∃ n,n < m+1/\(lp m n i 0).1=j
theorem round7:Round 7:=by
 have:∀ i,i < 8->∀ j,j < 8->∃ n,n < 8/\(lp 7 n i 0).1=j:=by decide +kernel
 exact this
theorem round31:Round 31:=by
 have:∀ i,i < 32->∀ j,j < 32->∃ n,n < 32/\(lp 31 n i 0).1=j:=by decide +kernel
 exact this
theorem k0' {m:Nat} (R:Round m) (h:Int){j:Nat} (hj:j < m+1):∃ n,n < m+14/\(lp m n (bits h % (m+1)) (bits h)).1=j:=by
 have p0:(lp m 13 (bits h % (m+1)) (bits h)).2=0:=by
  rw [dw']
  refine Nat.div_eq_of_lt (lt_of_lt_of_le (od' h) ?_)
  decide
 have l0:=nH' (m:=m) 13 (bits h % (m+1)) (bits h) (mod_lt _ (succ_pos _))
 obtain ⟨n,h1,h2⟩:=R _ l0 j hj
 refine ⟨13+n,by omega,?_⟩
 rw [dg',p0]
 exact h2
theorem pU' {m:Nat} (R:Round m) (h:Int){j:Nat} (hj:j < m+1):∃ k,k < 10*(m+14)/\sl m h k=j:=by
 obtain ⟨n,h1,h2⟩:=k0' R h hj
 obtain ⟨c,h3,h4,h5⟩:=kZ' (m:=m) (h:=h) n 0 _ _ rfl
 refine ⟨c,by omega,?_⟩
 unfold sl
 rw [h5]
 exact h2
end
noncomputable def orb (m:Nat):Nat->Nat->List Nat
 | 0,_=>[]
 | k+1,i=>i::orb m k (leap m i 0).1
theorem my' (m i:Nat):(leap m i 0).2=0:=by
 show 0 / 32=0
 rfl
theorem oe' (m n i:Nat):lp m (n+1) i 0=lp m n (leap m i 0).1 0:=by
 rw [lp,my']
theorem fw' (m n i:Nat):(lp m n i 0).2=0:=by rw [dw'];simp
theorem k1' (m:Nat):∀ (k i n:Nat),n < k->(orb m k i)[n]?=some (lp m n i 0).1
 | 0,_,_,h=>by omega
 | k+1,i,0,_=>rfl
 | k+1,i,n+1,h=>by
  rw [orb,getElem?_cons_succ,k1' m k _ n (by omega),oe']
theorem iX' {m k i j:Nat} (h:j∈orb m k i) (hl:(orb m k i).length=k):∃ n,n < k/\(lp m n i 0).1=j:=by
 obtain ⟨n,hn,e⟩:=List.getElem_of_mem h
 refine ⟨n,by omega,?_⟩
 have:=k1' m k i n (by omega)
 rw [getElem?_eq_getElem hn,e] at this
 exact (Option.some.inj this).symm
theorem fX' (m:Nat):∀ (k i:Nat),(orb m k i).length=k
 | 0,_=>rfl
 | k+1,i=>by rw [orb,length_cons,fX' m k]
theorem round127:Round 127:=by
 have all:∀ j,j < 128->∃ n,n < 128/\(lp 127 n 0 0).1=j:=λj hj=>by
  have c:∀ j,j < 128->j∈orb 127 128 0:=by decide +kernel
  exact iX' (c j hj) (fX' _ _ _)
 have turn:(lp 127 128 0 0).1=0:=by decide +kernel
 intro i hi j hj
 obtain ⟨a,ha,ea⟩:=all i hi
 obtain ⟨b,hb,eb⟩:=all j hj
 have da:∀ n,lp 127 n i 0=lp 127 (a+n) 0 0:=λn=>by rw [dg',ea,fw']
 rcases lt_or_ge b a with z | z
 ·refine ⟨b+128 - a,by omega,?_⟩
  rw [da,show a+(b+128 - a)=128+b by omega,dg',turn,fw',eb]
 ·exact ⟨b - a,by omega,by rw [da,show a+(b - a)=b by omega,eb]⟩
theorem round511:Round 511:=by
 have all:∀ j,j < 512->∃ n,n < 512/\(lp 511 n 0 0).1=j:=λj hj=>by
  have c:∀ j,j < 512->j∈orb 511 512 0:=by decide +kernel
  exact iX' (c j hj) (fX' _ _ _)
 have turn:(lp 511 512 0 0).1=0:=by decide +kernel
 intro i hi j hj
 obtain ⟨a,ha,ea⟩:=all i hi
 obtain ⟨b,hb,eb⟩:=all j hj
 have da:∀ n,lp 511 n i 0=lp 511 (a+n) 0 0:=λn=>by rw [dg',ea,fw']
 rcases lt_or_ge b a with z | z
 ·refine ⟨b+512 - a,by omega,?_⟩
  rw [da,show a+(b+512 - a)=512+b by omega,dg',turn,fw',eb]
 ·exact ⟨b - a,by omega,by rw [da,show a+(b - a)=b by omega,eb]⟩
structure TabOk (t:SetTable) (es:Array (Int×Value)):Prop where
 nd:t.dummies=#[]
 ris:Ris t.place
 sz:t.place.size=es.size
 low:∀ i (h:i < t.place.size),t.place[i]<=t.mask
 few:t.place.size<=300/\(t.mask=511\/(t.mask=127/\t.place.size<=76)\/(t.mask=31/\t.place.size<=18)\/(t.mask=7/\t.place.size<=4))
 pl:t.plain=true
 reach:∀ i (h:i < es.size) (h':i < t.place.size),∃ k,sl t.mask es[i].1 k=t.place[i]/\∀ k',k' < k->sl t.mask es[i].1 k'∈t.place
theorem hK':∀ (n:Nat) (l:List Nat),(∀ j,j < n->j∈l)->n<=l.length
 | 0,_,_=>zero_le _
 | n+1,l,h=>by
  have:=hK' n (l.erase n) λj hj=>(List.mem_erase_of_ne (by omega)).mpr (h j (by omega))
  rw [List.length_erase_of_mem (h n (by omega))] at this
  have:0 < l.length:=List.length_pos_of_mem (h n (by omega))
  omega
section
variable {t:SetTable}{es:Array (Int×Value)}
theorem TabOk.round (T:TabOk t es):Round t.mask:=by
 rcases T.few.2 with h | h | h | h
 ·rw [h];exact round511
 ·rw [h.1];exact round127
 ·rw [h.1];exact round31
 ·rw [h.1];exact round7
theorem TabOk.free (T:TabOk t es) (h:Int):∃ K,K < 10*(t.mask+14)/\sl t.mask h K∉t.place/\∀ k,k < K->sl t.mask h k∈t.place:=by
 have ex:∃ k,k < 10*(t.mask+14)/\sl t.mask h k∉t.place:=by
  apply byContradiction
  intro no
  have:t.mask+1<=t.place.toList.length:=hK' (t.mask+1) _ λj hj=>by
   obtain ⟨k,k1,k2⟩:=pU' T.round h hj
   apply byContradiction
   intro nj
   exact no ⟨k,k1,by rw [k2];simpa using nj⟩
  rw [length_toList] at this
  have:=T.few
  omega
 obtain ⟨k,k1,k2⟩:=ex
 induction k using Nat.strongRecOn with
 | ind k ih =>
  by_cases z:∃ k',k' < k/\sl t.mask h k'∉t.place
  ·obtain ⟨k',a,b⟩:=z
   exact ih k' a (by omega) b
  ·refine ⟨k,k1,k2,λk' cW=>?_⟩
   apply byContradiction
   intro nj
   exact z ⟨k',cW,nj⟩
theorem iY' {m i:Nat} (h:i<=m):i+(runEnd m i - i)<=m:=by
 unfold runEnd
 split<;>omega
theorem fx' (m:Nat) (h:Int):∀ k,(pth m h k).j+(pth m h k).more<=m/\(pth m h k).i<=m
 | 0=>by
  have:bits h % (m+1)<=m:=Nat.le_of_lt_succ (mod_lt _ (succ_pos _))
  exact ⟨iY' this,this⟩
 | k+1=>by
  have ih:=fx' m h k
  rw [pth]
  revert ih
  rcases pth m h k with ⟨j,more,i,q,d⟩
  intro ih
  cases more with
  | zero =>
   have:(leap m i q).1<=m:=Nat.le_of_lt_succ (mod_lt _ (succ_pos _))
   exact ⟨iY' this,this⟩
  | succ more =>
   dsimp only at ih
   exact ⟨by show j+1+more<=m;omega,ih.2⟩
theorem k2' {xs:Array Nat}{j:Nat} (h:j∈xs):∃ i,∃ h:i < xs.size,xs[i]=j:=by
 obtain ⟨i,hi,e⟩:=Array.getElem_of_mem h
 exact ⟨i,hi,e⟩
theorem cy' {α:Type}{xs:Array α}{p:Nat} (hp:p<=xs.size) (x:α) (i:Nat):(insertAt xs p x)[i]?=if i < p then xs[i]? else if i=p then some x else xs[i - 1]?:=by
 unfold insertAt
 rw [Array.getElem?_append,Array.size_push,size_extract]
 have e:min p xs.size - 0=p:=by omega
 rw [e]
 by_cases h1:i < p
 ·rw [if_pos (by omega),if_pos h1,Array.getElem?_push,size_extract,e,if_neg (by omega),getElem?_extract,if_pos (by omega),zero_add]
 ·rw [if_neg h1]
  by_cases h2:i=p
  ·rw [if_pos (by omega),if_pos h2,Array.getElem?_push,size_extract,e,if_pos h2]
  ·rw [if_neg (by omega),if_neg h2,getElem?_extract]
   by_cases h3:i - (p+1) < min xs.size xs.size - p
   ·rw [if_pos h3]
    congr 1
    omega
   ·rw [if_neg h3]
    symm
    rw [getElem?_eq_none]
    omega
theorem eQ' {α:Type}{xs:Array α}{p:Nat} (hp:p<=xs.size) (x:α):(insertAt xs p x).size=xs.size+1:=by
 unfold insertAt
 rw [Array.size_append,Array.size_push,size_extract,size_extract]
 omega
theorem iZ' {α:Type}{xs:Array α}{p:Nat} (hp:p<=xs.size) (x y:α):y∈insertAt xs p x↔y=x\/y∈xs:=by
 constructor
 ·intro h
  obtain ⟨i,e⟩:=mem_iff_getElem?.mp h
  rw [cy' hp] at e
  split at e
  ·exact .inr (Array.mem_of_getElem? e)
  ·split at e
   ·cases e;exact .inl rfl
   ·exact .inr (Array.mem_of_getElem? e)
 ·rintro (rfl | h)
  ·refine mem_iff_getElem?.mpr ⟨p,?_⟩
   rw [cy' hp,if_neg (by omega),if_pos rfl]
  ·obtain ⟨i,e⟩:=mem_iff_getElem?.mp h
   by_cases z:i < p
   ·exact mem_iff_getElem?.mpr ⟨i,by rw [cy' hp,if_pos z];exact e⟩
   ·exact mem_iff_getElem?.mpr ⟨i+1,by rw [cy' hp,if_neg (by omega),if_neg (by omega)];exact e⟩
theorem pV' (T:TabOk t es){h:Int}{x:Value}{K:Nat} (hK:sl t.mask h K∉t.place) (hk:∀ k,k < K->sl t.mask h k∈t.place) :
  let q:=t.put (sl t.mask h K)
  q.1.dummies=#[]/\Ris q.1.place/\q.1.place.size=(insertAt es q.2 (h,x)).size/\(∀ i (h:i < q.1.place.size),q.1.place[i]<=q.1.mask)/\q.1.mask=t.mask/\q.1.plain=t.plain/\q.1.led=t.led/\q.1.moves=t.moves/\q.1.place.size=t.place.size+1/\q.2<=es.size ∧
   (∀ i (h1:i < (insertAt es q.2 (h,x)).size) (h2:i < q.1.place.size),∃ k,sl q.1.mask (insertAt es q.2 (h,x))[i].1 k=q.1.place[i]/\∀ k',k' < k->sl q.1.mask (insertAt es q.2 (h,x))[i].1 k'∈q.1.place):=by
 intro q
 obtain ⟨b1,b2,b3⟩:=dv' T.ris (sl t.mask h K)
 have q2:q.2=below t.place (sl t.mask h K):=rfl
 have q1:q.1.place=insertAt t.place (below t.place (sl t.mask h K)) (sl t.mask h K):=rfl
 have hp:q.2<=es.size:=by rw [q2,← T.sz];exact b1
 have nh:has t.dummies (sl t.mask h K)=false:=by rw [T.nd];rfl
 have qd:q.1.dummies=#[]:=by
  show (if has t.dummies (sl t.mask h K)=true then _ else t.dummies)=_
  rw [nh,if_neg Bool.false_ne_true];exact T.nd
 have get:∀ i (h2:i < q.1.place.size),(i < q.2/\∃ hi:i < t.place.size,q.1.place[i]=t.place[i])\/(i=q.2/\q.1.place[i]=sl t.mask h K)\/(q.2 < i/\∃ hi:i - 1 < t.place.size,q.1.place[i]=t.place[i - 1]):=λi h2=>by
  have e:=cy' (x:=sl t.mask h K) b1 i
  rw [← q1,← q2,Array.getElem?_eq_getElem h2] at e
  by_cases z1:i < q.2
  ·rw [if_pos z1] at e
   obtain ⟨hi,e⟩:=Array.getElem?_eq_some_iff.mp e.symm
   exact .inl ⟨z1,hi,e.symm⟩
  ·rw [if_neg z1] at e
   by_cases z2:i=q.2
   ·rw [if_pos z2] at e
    exact .inr (.inl ⟨z2,Option.some.inj e⟩)
   ·rw [if_neg z2] at e
    obtain ⟨hi,e⟩:=Array.getElem?_eq_some_iff.mp e.symm
    exact .inr (.inr ⟨by omega,hi,e.symm⟩)
 have sz:q.1.place.size=t.place.size+1:=by rw [q1];exact eQ' b1 _
 have ne:∀ i (hi:i < t.place.size),t.place[i]≠sl t.mask h K:=λi hi z=>hK (by rw [← z];exact Array.getElem_mem hi)
 refine ⟨qd,?_,by rw [sz,eQ' hp,T.sz],?_,rfl,rfl,rfl,rfl,sz,hp,?_⟩
 ·intro i j hi hj lt
  rcases get i hi with ⟨a1,a2,a3⟩ | ⟨a1,a3⟩ | ⟨a1,a2,a3⟩<;>rcases get j hj with ⟨c1,c2,c3⟩ | ⟨c1,c3⟩ | ⟨c1,c2,c3⟩
  ·rw [a3,c3];exact T.ris i j a2 c2 lt
  ·rw [a3,c3];exact b2 i a2 (by omega)
  ·rw [a3,c3]
   have:=b2 i a2 (by omega)
   have:=b3 (j - 1) c2 (by omega)
   omega
  ·omega
  ·omega
  ·rw [a3,c3]
   have:=b3 (j - 1) c2 (by omega)
   have:=ne (j - 1) c2
   omega
  ·omega
  ·omega
  ·rw [a3,c3];exact T.ris (i - 1) (j - 1) a2 c2 (by omega)
 ·intro i hi
  show _<=t.mask
  rcases get i hi with ⟨a1,a2,a3⟩ | ⟨a1,a3⟩ | ⟨a1,a2,a3⟩
  ·rw [a3];exact T.low _ _
  ·rw [a3];have:=(fx' t.mask h K).1;unfold sl;omega
  ·rw [a3];exact T.low _ _
 ·intro i h1 h2
  have dD:∀ y,y∈t.place->y∈q.1.place:=λy hy=>by rw [q1];exact (iZ' b1 _ _).mpr (.inr hy)
  have e:=cy' (x:=(h,x)) hp i
  rw [Array.getElem?_eq_getElem h1] at e
  show ∃ k,sl t.mask _ k=_/\∀ k',k' < k->sl t.mask _ k'∈_
  rcases get i h2 with ⟨a1,a2,a3⟩ | ⟨a1,a3⟩ | ⟨a1,a2,a3⟩
  ·rw [if_pos a1] at e
   obtain ⟨hi,e⟩:=Array.getElem?_eq_some_iff.mp e.symm
   obtain ⟨k,k1,k2⟩:=T.reach i hi a2
   rw [← e,a3]
   exact ⟨k,k1,λk' cW=>dD _ (k2 k' cW)⟩
  ·rw [if_neg (by omega),if_pos a1] at e
   rw [Option.some.inj e,a3]
   exact ⟨K,rfl,λk' cW=>dD _ (hk k' cW)⟩
  ·rw [if_neg (by omega),if_neg (by omega)] at e
   obtain ⟨hi,e⟩:=Array.getElem?_eq_some_iff.mp e.symm
   obtain ⟨k,k1,k2⟩:=T.reach (i - 1) hi a2
   rw [← e,a3]
   exact ⟨k,k1,λk' cW=>dD _ (k2 k' cW)⟩
end
noncomputable def tak (o:Array (Option Nat)) (j:Nat):Bool:=(o.getD j (some 0)).isSome
theorem i0' {m:Nat}{o:Array (Option Nat)}{h:Int}:∀ (f c i p:Nat),pth m h c=hd m i p →
  (∃ k,c<=k/\layClean.free m o f i p=some (sl m h k)/\tak o (sl m h k)=false/\∀ k',c<=k'->k' < k->tak o (sl m h k')=true)\/(∀ n,n < f->tak o (lp m n i p).1=true)
 | 0,c,i,p,e=>.inr λn h=>by omega
 | f+1,c,i,p,e=>by
  have run:=λd bj=>fW' e d bj
  have aJ:∀ d,d<=runEnd m i - i->sl m h (c+d)=i+d:=λd bj=>by unfold sl;rw [run d bj]
  have up:i<=runEnd m i:=by unfold runEnd;split<;>omega
  rw [layClean.free]
  cases hf:(range (runEnd m i+1 - i)).find? λk=>(o.getD (i+k) (some 0)).isNone with
  | some d =>
   obtain ⟨d1,d2,d3⟩:=List.find?_range_eq_some.mp hf
   rw [mem_range] at d2
   left
   refine ⟨c+d,by omega,?_,?_,λk' a b=>?_⟩
   ·dsimp only
    rw [aJ d (by omega)]
   ·rw [aJ d (by omega)]
    unfold tak
    cases x:o.getD (i+d) (some 0) with
    | none=>rfl
    | some v=>rw [x] at d1;cases d1
   ·obtain ⟨d',rfl⟩:∃ d',k'=c+d':=⟨k' - c,by omega⟩
    rw [aJ d' (by omega)]
    have:=d3 d' (by omega)
    unfold tak
    cases x:o.getD (i+d') (some 0) with
    | none=>rw [x] at this;cases this
    | some v=>rfl
  | none =>
   have no:=List.find?_range_eq_none.mp hf
   have all:∀ k',c<=k'->k' < c+(runEnd m i - i)+1->tak o (sl m h k')=true:=λk' a b=>by
    obtain ⟨d',rfl⟩:∃ d',k'=c+d':=⟨k' - c,by omega⟩
    rw [aJ d' (by omega)]
    have:=no d' (by omega)
    unfold tak
    cases x:o.getD (i+d') (some 0) with
    | none=>rw [x] at this;cases this
    | some v=>rfl
   dsimp only
   rcases i0' (o:=o) f _ _ _ (hJ' e) with ⟨k,k1,k2,k3,k4⟩ | aB
   ·left
    refine ⟨k,by omega,k2,k3,λk' a b=>?_⟩
    by_cases z:k' < c+(runEnd m i - i)+1
    ·exact all k' a z
    ·exact k4 k' (by omega) b
   ·right
    intro n hn
    cases n with
    | zero =>
     have:=all c (le_refl _) (by omega)
     rw [← Nat.add_zero c,aJ 0 (by omega)] at this
     exact this
    | succ n =>
     rw [lp]
     exact aB n (by omega)
theorem cT':∀ (k:Nat) (l:List Nat),l.Nodup->(∀ x∈l,x < k)->l.length<=k
 | 0,l,_,h=>by
  cases l with
  | nil=>exact le_refl _
  | cons x l=>exact absurd (h x mem_cons_self) (not_lt_zero _)
 | k+1,l,nd,h=>by
  by_cases z:k∈l
  ·have:=cT' k (l.erase k) (nd.erase k) λx hx=>by
    have h1:=h x (List.mem_of_mem_erase hx)
    have h2:x≠k:=λe=>by
     subst e
     exact (List.Nodup.not_mem_erase nd) hx
    omega
   rw [List.length_erase_of_mem z] at this
   omega
  ·have:=cT' k l nd λx hx=>by
    have h1:=h x hx
    have h2:x≠k:=λe=>z (e▸hx)
    omega
   omega
structure Laid (m:Nat) (hs:List Int) (o:Array (Option Nat)) (k:Nat):Prop where
 sz:o.size=m+1
 old:∀ (j v:Nat),o[j]?=some (some v)->v < k
 one:∀ (j j' v:Nat),o[j]?=some (some v)->o[j']?=some (some v)->j=j'
 way:∀ (v:Nat),v < k->∃ (j c:Nat),o[j]?=some (some v)/\sl m (hs.getD v 0) c=j/\∀ c',c' < c->tak o (sl m (hs.getD v 0) c')=true
theorem Laid.room {m:Nat}{hs:List Int}{o:Array (Option Nat)}{k:Nat} (L:Laid m hs o k) (hk:k<=m):∃ j,j < m+1/\tak o j=false:=by
 apply byContradiction
 intro no
 have all:∀ j,j < m+1->∃ v,o[j]?=some (some v):=λj hj=>by
  have t:tak o j=true:=by
   cases x:tak o j with
   | true=>rfl
   | false=>exact absurd ⟨j,hj,x⟩ no
  unfold tak at t
  rw [getD,dif_pos (by rw [L.sz];exact hj)] at t
  rw [Array.getElem?_eq_getElem (by rw [L.sz];exact hj)]
  cases x:o[j]'(by rw [L.sz];exact hj) with
  | none=>simp [x] at t
  | some v=>exact ⟨v,rfl⟩
 have nd:((range (m+1)).map λj=>((o[j]?).bind id).getD 0).Nodup:=by
  unfold List.Nodup
  rw [pairwise_map]
  refine imp_of_mem ?_ List.nodup_range
  intro a b ha hb ne e
  obtain ⟨v,hv⟩:=all a (mem_range.mp ha)
  obtain ⟨v',iE⟩:=all b (mem_range.mp hb)
  rw [hv,iE] at e
  have e:v=v':=e
  subst e
  exact ne (L.one a b v hv iE)
 have:=cT' k _ nd λx hx=>by
  obtain ⟨j,hj,rfl⟩:=mem_map.mp hx
  obtain ⟨v,hv⟩:=all j (mem_range.mp hj)
  rw [hv]
  exact L.old j v hv
 rw [length_map,length_range] at this
 omega
theorem Laid.step {m:Nat} (R:Round m){hs:List Int}{o:Array (Option Nat)}{k:Nat} (L:Laid m hs o k) (hk:k<=m):∃ j,layClean.free m o (turns m) (bits (hs.getD k 0) % (m+1)) (bits (hs.getD k 0))=some j/\Laid m hs (o.setIfInBounds j (some k)) (k+1):=by
 rcases i0' (m:=m) (o:=o) (h:=hs.getD k 0) (turns m) 0 _ _ rfl with ⟨K,_,k2,k3,k4⟩ | full
 ·refine ⟨_,k2,?_⟩
  have hj:sl m (hs.getD k 0) K < o.size:=by
   rw [L.sz]
   have:=(fx' m (hs.getD k 0) K).1
   unfold sl
   omega
  have free:o[sl m (hs.getD k 0) K]?=some none:=by
   unfold tak at k3
   rw [getD_eq_getD_getElem?,Array.getElem?_eq_getElem hj] at k3
   rw [Array.getElem?_eq_getElem hj]
   cases x:o[sl m (hs.getD k 0) K] with
   | none=>rfl
   | some v=>rw [x] at k3;cases k3
  have get:∀ i,(o.setIfInBounds (sl m (hs.getD k 0) K) (some k))[i]?=if sl m (hs.getD k 0) K=i then some (some k) else o[i]?:=λi=>by
   rw [Array.getElem?_setIfInBounds]
   split
   ·rename_i e
    subst e
    simp [hj]
   ·rfl
  have more:∀ i,tak o i=true->tak (o.setIfInBounds (sl m (hs.getD k 0) K) (some k)) i=true:=λi hi=>by
   unfold tak at hi ⊢
   rw [getD_eq_getD_getElem?] at hi ⊢
   rw [get]
   split
   ·rfl
   ·exact hi
  refine ⟨by rw [Array.size_setIfInBounds];exact L.sz,λj v e=>?_,λj j' v e e'=>?_,λv hv=>?_⟩
  ·rw [get] at e
   split at e
   ·cases e;omega
   ·have:=L.old j v e;omega
  ·rw [get] at e e'
   split at e
   ·cases e
    split at e'
    ·omega
    ·have:=L.old j' k e';omega
   ·split at e'
    ·cases e'
     have:=L.old j k e;omega
    ·exact L.one j j' v e e'
  ·by_cases z:v=k
   ·subst z
    exact ⟨_,K,by rw [get,if_pos rfl],rfl,λc' bI=>more _ (k4 c' (zero_le _) bI)⟩
   ·obtain ⟨j,c,e1,e2,e3⟩:=L.way v (by omega)
    refine ⟨j,c,?_,e2,λc' bI=>more _ (e3 c' bI)⟩
    rw [get,if_neg ?_]
    ·exact e1
    ·intro e
     subst e
     rw [free] at e1
     cases e1
 ·obtain ⟨j,hj,tj⟩:=L.room hk
  obtain ⟨n,n1,n2⟩:=k0' R (hs.getD k 0) hj
  have:=full n (by unfold turns;omega)
  rw [n2,tj] at this
  cases this
theorem it' {m:Nat} (R:Round m) (hs:List Int) (hm:hs.length<=m):∃ o,layClean m hs.toArray=some o/\Laid m hs o hs.length:=by
 unfold layClean
 rw [← Array.foldl_toList]
 have key:∀ (l pre:List Int) (o:Array (Option Nat)),hs=pre++l->Laid m hs o pre.length->∃ o',List.foldl (λam h=>do
   let (owner,k) ← am
   let j ← layClean.free m owner (turns m) (bits h % (m+1)) (bits h)
   pure (owner.setIfInBounds j (some k),k+1)) (some (o,pre.length)) l=some (o',hs.length)/\Laid m hs o' hs.length:=by
  intro l
  induction l with
  | nil =>
   intro pre o e L
   rw [append_nil] at e
   subst e
   exact ⟨o,rfl,L⟩
  | cons h l ih =>
   intro pre o e L
   have gk:hs.getD pre.length 0=h:=by rw [e,getD_eq_getElem?_getD];simp
   have lk:pre.length<=m:=by
    have:=congrArg length e
    simp at this
    omega
   obtain ⟨j,j1,j2⟩:=L.step R lk
   rw [gk] at j1
   obtain ⟨o',h1,h2⟩:=ih (pre++[h]) (o.setIfInBounds j (some pre.length)) (by rw [e];simp) (by simpa using j2)
   refine ⟨o',?_,h2⟩
   rw [foldl_cons,← h1]
   congr 1
   show (layClean.free m o (turns m) (bits h % (m+1)) (bits h)).bind _=_
   rw [j1]
   simp
 have aI:∀ (j v:Nat),(Array.replicate (m+1) (none:Option Nat))[j]?=some (some v)->False:=λj v e=>by
  rw [Array.getElem?_replicate] at e
  split at e
  ·cases e
  ·cases e
 obtain ⟨o',h1,h2⟩:=key hs [] (Array.replicate (m+1) none) rfl ⟨by simp,λj v e=>(aI j v e).elim,λj j' v e=>(aI j v e).elim,λv hv=>absurd hv (not_lt_zero _)⟩
 exact ⟨o',by
  have:=congrArg (Option.map (·.1)) h1
  exact this,h2⟩
theorem of' {es:Array (Int×Value)}{m:Nat} (R:Round m) (few:(m=31/\es.size<=18)\/(m=127/\es.size<=76)\/(m=511/\es.size<=300)) (finger moves:Nat) (led:Bool):∃ t bD,laid m finger moves led true (es.map (·.1))=some (t,bD)/\(bD.filterMap (es[·]?)).size=es.size/\TabOk t (bD.filterMap (es[·]?))/\t.mask=m/\t.led=led ∧
  (∀ x,x∈bD.filterMap (es[·]?)↔x∈es)/\bD.toList.Perm (range es.size):=by
 obtain ⟨o,h1,L⟩:=it' R (es.map (·.1)).toList (by simp;omega)
 rw [Array.toArray_toList] at h1
 have nl:(es.map (·.1)).toList.length=es.size:=by simp
 rw [nl] at L
 obtain ⟨live,dN⟩:∃ live:List (Nat×Nat),live=(range (m+1)).filterMap λj=>(o.getD j none).map (j,·):=⟨_,rfl⟩
 have mem:∀ j v,(j,v)∈live↔o[j]?=some (some v):=λj v=>by
  rw [dN,List.mem_filterMap]
  constructor
  ·rintro ⟨a,ha,e⟩
   rw [getD_eq_getD_getElem?] at e
   cases x:o[a]? with
   | none=>rw [x] at e;cases e
   | some w =>
    rw [x] at e
    cases w with
    | none=>cases e
    | some w=>cases e;exact x
  ·intro e
   have:=(Array.getElem?_eq_some_iff.mp e).1
   refine ⟨j,mem_range.mpr (by rw [L.sz] at this;exact this),?_⟩
   rw [getD_eq_getD_getElem?,e]
   rfl
 have ris:live.Pairwise λa b=>a.1 < b.1:=by
  rw [dN,List.pairwise_filterMap]
  refine List.Pairwise.imp ?_ List.pairwise_lt_range
  intro a b lt x hx y hy
  cases e:o.getD a none with
  | none=>rw [e] at hx;cases hx
  | some v =>
   rw [e] at hx
   cases hx
   cases e':o.getD b none with
   | none=>rw [e'] at hy;cases hy
   | some v'=>rw [e'] at hy;cases hy;exact lt
 have kh:(live.map (·.2)).Nodup:=by
  unfold List.Nodup
  rw [pairwise_map]
  refine imp_of_mem ?_ ris
  intro a b ha hb lt e
  have h1:=(mem a.1 a.2).mp ha
  have h2:=(mem b.1 b.2).mp hb
  rw [e] at h1
  have:=L.one _ _ _ h1 h2
  omega
 have lo:live.length=es.size:=by
  refine Nat.le_antisymm ?_ ?_
  ·have:=cT' es.size (live.map (·.2)) kh λx hx=>by
    obtain ⟨q,hq,rfl⟩:=mem_map.mp hx
    exact L.old q.1 q.2 ((mem _ _).mp hq)
   simpa using this
  ·have:=hK' es.size (live.map (·.2)) λv hv=>by
    obtain ⟨j,c,e,_⟩:=L.way v hv
    exact mem_map.mpr ⟨(j,v),(mem j v).mpr e,rfl⟩
   simpa using this
 have low:∀ q∈live,q.2 < es.size:=λq hq=>L.old q.1 q.2 ((mem _ _).mp hq)
 have ak:((live.map (·.2)).toArray.filterMap (es[·]?)).toList=live.map λq=>es[q.2]?.getD (0,Value.none):=by
  rw [Array.toList_filterMap]
  show (live.map (·.2)).filterMap (es[·]?)=_
  clear lo kh ris mem dN
  induction live with
  | nil=>rfl
  | cons q live ih =>
   have hq:=low q mem_cons_self
   rw [map_cons,filterMap_cons,Array.getElem?_eq_getElem hq,map_cons,Array.getElem?_eq_getElem hq]
   rw [ih λq hq=>low q (mem_cons_of_mem _ hq)]
   rfl
 refine ⟨{ mask:=m,place:=(live.map (·.1)).toArray,dummies:=#[],finger,led,moves,plain:=true },(live.map (·.2)).toArray,?_,?_,?_,rfl,rfl,λx=>?_,?_⟩
 ·unfold laid
  rw [h1]
  show some _=some _
  rw [dN]
 ·rw [← length_toList,ak,length_map,lo]
 ·have rm:((live.map (·.2)).toArray.filterMap (es[·]?)).size=live.length:=by rw [← length_toList,ak,length_map]
  have rp:∀ i (h1:i < ((live.map (·.2)).toArray.filterMap (es[·]?)).size) (h2:i < live.length),((live.map (·.2)).toArray.filterMap (es[·]?))[i]=es[live[i].2]?.getD (0,Value.none):=λi h1 h2=>by
   rw [← Array.getElem_toList]
   have:((live.map (·.2)).toArray.filterMap (es[·]?)).toList[i]'(by rw [length_toList];exact h1)=(live.map λq=>es[q.2]?.getD (0,Value.none))[i]'(by simpa using h2):=by
    congr 1
   rw [this,getElem_map]
  refine ⟨rfl,λi j hi hj lt=>?_,?_,λi hi=>?_,⟨?_,?_⟩,rfl,λi h1 h2=>?_⟩
  ·simp at hi hj
   simp only [List.getElem_toArray,getElem_map]
   exact (pairwise_iff_getElem.mp ris) i j hi hj lt
  ·rw [rm];simp
  ·simp at hi
   simp only [List.getElem_toArray,getElem_map]
   have:=(mem live[i].1 live[i].2).mp (getElem_mem hi)
   have:=(Array.getElem?_eq_some_iff.mp this).1
   rw [L.sz] at this
   show _<=m
   omega
  ·simp;omega
  ·have ll:(live.map (·.1)).toArray.size=live.length:=by simp
   show m=511\/(m=127/\(live.map (·.1)).toArray.size<=76)\/(m=31/\(live.map (·.1)).toArray.size<=18)\/(m=7/\_)
   rcases few with z | z | z
   ·exact .inr (.inr (.inl ⟨z.1,by rw [ll];omega⟩))
   ·exact .inr (.inl ⟨z.1,by rw [ll];omega⟩)
   ·exact .inl z.1
  ·have ki:i < live.length:=by simpa using h2
   rw [rp i h1 ki]
   simp only [List.getElem_toArray,getElem_map]
   have m1:=(mem live[i].1 live[i].2).mp (getElem_mem ki)
   have v1:=low live[i] (getElem_mem ki)
   obtain ⟨j,c,e1,e2,e3⟩:=L.way live[i].2 v1
   have:j=live[i].1:=L.one _ _ _ e1 m1
   subst this
   have hh:(es.map (·.1)).toList.getD live[i].2 0=es[live[i].2].1:=by
    rw [getD_eq_getElem?_getD]
    simp [v1]
   rw [hh] at e2 e3
   rw [Array.getElem?_eq_getElem v1]
   refine ⟨c,e2,λc' bI=>?_⟩
   have tk:=e3 c' bI
   unfold tak at tk
   have lt:=(fx' m es[live[i].2].1 c').1
   have lt:sl m es[live[i].2].1 c' < o.size:=by rw [L.sz];unfold sl;omega
   rw [getD,dif_pos lt] at tk
   show sl m es[live[i].2].1 c'∈_
   cases x:o[sl m es[live[i].2].1 c'] with
   | none=>simp [x] at tk
   | some v =>
    have:(sl m es[live[i].2].1 c',v)∈live:=(mem _ _).mpr (by rw [Array.getElem?_eq_getElem lt,x])
    simp only [List.mem_toArray,mem_map]
    exact ⟨_,this,rfl⟩
 ·rw [← Array.mem_toList_iff,ak,mem_map]
  constructor
  ·rintro ⟨q,hq,rfl⟩
   rw [Array.getElem?_eq_getElem (low q hq)]
   exact Array.getElem_mem _
  ·intro hx
   obtain ⟨v,hv,rfl⟩:=Array.getElem_of_mem hx
   obtain ⟨j,c,e,_⟩:=L.way v hv
   refine ⟨(j,v),(mem j v).mpr e,?_⟩
   dsimp only
   rw [Array.getElem?_eq_getElem hv]
   rfl
 ·show (live.map (·.2)).Perm _
  refine (List.perm_ext_iff_of_nodup kh List.nodup_range).mpr λv=>⟨λh=>?_,λh=>?_⟩
  ·obtain ⟨q,hq,rfl⟩:=mem_map.mp h
   exact mem_range.mpr (low q hq)
  ·obtain ⟨j,c,e,_⟩:=L.way v (mem_range.mp h)
   exact mem_map.mpr ⟨(j,v),(mem j v).mpr e,rfl⟩
end DL
namespace DL
open PySem PySem.W PySem.Spec PyProof.Rows L2
end DL
namespace DL
open PySem PySem.W PySem.Spec PyProof.Rows L2 PySem.SetTable
section
variable {prog:Program}{w:World}{A:Around}{E:Value->Shared->Prop}{s:Shared}
theorem TabOk.fits {t:SetTable}{es:Array (Int×Value)} (T:TabOk t es):t.fits es.size=true:=by
 have:=T.few
 have:=T.sz
 unfold SetTable.fits SetTable.fill
 rw [T.nd]
 simp [T.sz]
 omega
end
section
variable {prog:Program}{w:World}{A:Around}{E:Value->Shared->Prop}{s:Shared}
def SetAt (h:Heap) (a:Addr) (led:Bool) (es:Array (Int×Value)):Prop:=∃ o ep t,h.get? a=some o/\o.cls=.type "set"/\o.data=.set es ep t/\TabOk t es/\t.led=led
theorem i1' {h:Heap}{a:Addr}{o:Obj}{es es':Array (Int×Value)}{ep:Nat}{t t':SetTable} (ho:h.get? a=some o) (hd:o.data=.set es ep t):(h.update a (putSet es' t')).get? a=some { o with data:=.set es' (ep+1) t' }:=by
 have e:=putSet_of es' t' hd
 have:=get?_update_self (putSet es' t') ho (by rw [e];rfl)
 rw [e] at this
 exact this
end
section
variable {X:Cx}{aa:List (Addr×Obj)}{U:L2.St}{H:Hp}{s0 s:Shared}{prog:Program}{w:World}{A:Around}{E:Value->Shared->Prop}
def Ext (s0 s:Shared):Prop:=∃ h tk,s={ s0 with heap:=h,toks:=tk }/\∀ b o,s0.heap.get? b=some o->h.get? b=some o
theorem Ext.inv (I:Inv X aa U H s0) (e:Ext s0 s):Inv X aa U H s:=by
 obtain ⟨h,tk,rfl,k⟩:=e
 exact I.kept (t':=tk) k
theorem Ext.next (e:Ext s0 s){h':Heap}{tk:Nat} (k:∀ b o,b < s0.heap.objs.size->s.heap.get? b=some o->h'.get? b=some o):Ext s0 { s with heap:=h',toks:=tk }:=by
 obtain ⟨h,t,rfl,k0⟩:=e
 exact ⟨h',tk,rfl,λb o x=>k b o (lt_size x) (k0 b o x)⟩
theorem SetAt.kept {h h':Heap}{a:Addr}{led:Bool}{es:Array (Int×Value)} (S:SetAt h a led es) (k:∀ o,h.get? a=some o->h'.get? a=some o):SetAt h' a led es:=by
 obtain ⟨o,ep,t,r1,r2⟩:=S
 exact ⟨o,ep,t,k _ r1,r2⟩
end
theorem gt':Manifest.owners.lookup (String.ofList ['r','o','t','a','r','e','t','i','_','t','e','s'].reverse)=some Manifest.sig_set_iterator:=by kernel_rfl
theorem b6':Slot "set_iterator" "__next__" "set_iterator.__next__":=.of (owner := "set_iterator") (n := "__next__") (by rw [typeLookup_type,builtinLookup_eq_fast];kernel_rfl) (by decide +kernel) (by decide +kernel) (by decide +kernel) (by first | exact .inl (by decide +kernel) | exact .inr (by decide +kernel)) (by rw [isSubtype_type];kernel_rfl)
theorem gu':entryFor table "set_iterator.__next__"=some Builtin.«set_iterator.__next__»:=entryFor_of_tree (by kernel_rfl)
theorem hL' (a:Value):argsOk "set_iterator.__next__" ⟨[a],[]⟩:=by
 unfold argsOk
 rw [signature?_of (id := "set_iterator.__next__") (n:=['_','_','t','x','e','n','_','_']) (o:=['r','o','t','a','r','e','t','i','_','t','e','s']) (by kernel_rfl) gt']
 kernel_rfl
theorem fY':entryFor table "set.__iter__"=some Builtin.«frozenset.__iter__»:=entryFor_alias (id' := "frozenset.__iter__") (by kernel_rfl) rfl (by decide +kernel) (by kernel_rfl)
theorem gv' {α:Type}:∀ (l:List α) (i:Nat) (h:i < l.length),(l[i]::l.eraseIdx i).Perm l
 | a::l,0,h=>List.Perm.refl _
 | a::l,i+1,h=>by
  rw [List.eraseIdx_cons_succ,List.getElem_cons_succ]
  exact (List.Perm.swap a _ _).trans ((gv' l i (by simpa using h)).cons a)
theorem i2' {α:Type} (next:Nat->Nat):∀ (f k:Nat) (left:List α) (ak:Array α),left.length=f->(pickOrder.go next f k left ak).toList.Perm (ak.toList++left)
 | 0,k,left,ak,h=>by
  rw [pickOrder.go,length_eq_zero_iff.mp h,append_nil]
 | f+1,k,left,ak,h=>by
  have lt:next k % left.length < left.length:=mod_lt _ (by omega)
  rw [pickOrder.go,getElem?_eq_getElem lt]
  dsimp only
  refine (i2' next f (k+1) _ _ (by rw [List.length_eraseIdx_of_lt lt];omega)).trans ?_
  rw [toList_push,append_assoc]
  exact append_left _ (gv' left _ lt)
theorem k3' {α:Type} (next:Nat->Nat) (xs:Array α):(pickOrder next xs).toList.Perm xs.toList:=by
 have:=i2' next xs.size 0 xs.toList #[] (by simp)
 simpa [pickOrder] using this
section
variable {prog:Program}{w:World}{A:Around}{E:Value->Shared->Prop}{s:Shared}
noncomputable def byTx (w:World):Bool:=w.params.followText "set-order"
noncomputable def walkOf (w:World) (S:Addr) (ep:Nat) (es:Array (Int×Value)):Array (Int×Value):=if byTx w=true then pickOrder (w.params.setOrder S ep) es else es
theorem gw' (w:World) (S:Addr) (ep:Nat) (es:Array (Int×Value)):(walkOf w S ep es).toList.Perm es.toList:=by
 unfold walkOf
 split
 ·exact k3' _ _
 ·exact List.Perm.refl _
theorem cU' (w:World) (S:Addr) (ep:Nat) (es:Array (Int×Value)):(walkOf w S ep es).size=es.size:=by
 have:=(gw' w S ep es).length_eq
 simpa using this
noncomputable def slotAt (w:World) (t:SetTable) (k:Nat):Nat:=if byTx w=true then 0 else match k with
 | 0=>0
 | k+1=>t.place.getD k 0+1
def SitAt (h:Heap) (I S:Addr) (slot k n ep:Nat):Prop:=∃ o,h.get? I=some o/\o.cls=.type "set_iterator"/\o.data=.fields #[.int slot 0,.int k 0,.ref S,.int n 0,.int ep 0]
def SetIs (h:Heap) (S:Addr) (es:Array (Int×Value)) (ep:Nat) (t:SetTable):Prop:=∃ o,h.get? S=some o/\o.cls=.type "set"/\o.data=.set es ep t
theorem jL' {w:World}{t:SetTable}{es:Array (Int×Value)} (T:TabOk t es) (hb:byTx w=false){k:Nat} (hk:k<=es.size):below t.place (slotAt w t k)=k:=by
 unfold slotAt
 rw [hb,if_neg Bool.false_ne_true];have sz:=T.sz
 cases k with
 | zero =>
  dsimp only
  obtain ⟨b1,b2,b3⟩:=dv' T.ris 0
  rcases Nat.eq_zero_or_pos (below t.place 0) with h | h
  ·exact h
  ·have:=b2 0 (by omega) h
   omega
 | succ k =>
  dsimp only
  have lt:k < t.place.size:=by omega
  rw [getD,dif_pos lt]
  change below t.place (t.place[k]+1)=k+1
  obtain ⟨b1,b2,b3⟩:=dv' T.ris (t.place[k]+1)
  rcases Nat.lt_trichotomy (below t.place (t.place[k]+1)) (k+1) with l | l | l
  ·have:=b3 k lt (by omega)
   omega
  ·exact l
  ·have h1:k+1 < t.place.size:=by omega
   have:=b2 (k+1) h1 l
   have:=T.ris k (k+1) lt h1 (by omega)
   omega
theorem fZ' {Q:Bool->Shared->Prop} (q:Q (byTx w) s):wpAny (model prog w) A setsByText Q E s:=wpAny_bind (wpAny_askSetting (wpAny_pure q))
theorem i3' {S:Addr}{es:Array (Int×Value)}{ep:Nat}{t:SetTable} (T:TabOk t es) (led:t.led=!byTx w) (hS:SetIs s.heap S es ep t){k:Nat} (hk:k<=es.size){Q:Option (Value×Nat)->Shared->Prop}
  (q:Q ((walkOf w S ep es)[k]?.map λe=>(e.2,slotAt w t (k+1))) s):wpAny (model prog w) A (setNext S (slotAt w t k) k ep) Q E s:=by
 obtain ⟨o,ho,hc,hd⟩:=hS
 unfold setNext
 refine wpAny_bind (wpAny_setState_of ho hd T.fits ?_)
 dsimp only
 refine wpAny_bind (fZ' ?_)
 cases hb:byTx w with
 | true =>
  rw [if_pos rfl,bne_self_eq_false,if_neg Bool.false_ne_true]
  have z:∀ k,slotAt w t k=0:=λk=>by unfold slotAt;rw [hb,if_pos rfl]
  rw [z]
  rw [z] at q
  refine wpAny_bind ?_
  unfold setWalk
  refine wpAny_bind (wpAny_setState_of ho hd T.fits ?_)
  dsimp only
  refine wpAny_bind (fZ' ?_)
  rw [hb,if_pos rfl]
  refine wpAny_bind (wpAny_askSetting (wpAny_pure (wpAny_pure ?_)))
  unfold walkOf at q
  rw [hb,if_pos rfl] at q
  exact q
 | false =>
  rw [if_neg Bool.false_ne_true]
  show wpAny _ _ (if (!t.plain&&decide (es.size > 1))=true then _ else _) _ _ _
  rw [T.pl,Bool.not_true,Bool.false_and,if_neg Bool.false_ne_true]
  refine wpAny_bind ?_
  show wpAny _ _ (if (!t.led&&!es.isEmpty)=true then _ else _) _ _ _
  rw [led,hb,Bool.not_false,Bool.not_true,Bool.false_and,if_neg Bool.false_ne_true]
  refine wpAny_pure (wpAny_pure ?_);rw [jL' T hb hk]
  unfold walkOf at q
  rw [hb,if_neg Bool.false_ne_true] at q
  have sz:=T.sz
  by_cases lt:k < es.size
  ·have lt':k < t.place.size:=by omega
   rw [Array.getElem?_eq_getElem lt,Array.getElem?_eq_getElem lt']
   rw [Array.getElem?_eq_getElem lt] at q
   unfold slotAt at q
   rw [hb,if_neg Bool.false_ne_true] at q
   simp only [map_some,getD,lt',dif_pos] at q
   exact q
  ·rw [getElem?_eq_none (by omega)]
   rw [getElem?_eq_none (by omega)] at q
   exact q
end
section
variable {prog:Program}{w:World}{A:Around}{E:Value->Shared->Prop}{s:Shared}
theorem hM':Slot "set_iterator" "__iter__" "set_iterator.__iter__":=.of (owner := "set_iterator") (n := "__iter__") (by rw [typeLookup_type,builtinLookup_eq_fast];kernel_rfl) (by decide +kernel) (by decide +kernel) (by decide +kernel) (by first | exact .inl (by decide +kernel) | exact .inr (by decide +kernel)) (by rw [isSubtype_type];kernel_rfl)
theorem f0':entryFor table "set_iterator.__iter__"=some Builtin.«dict_keyiterator.__iter__»:=entryFor_alias (id' := "dict_keyiterator.__iter__") (by kernel_rfl) rfl (by decide +kernel) (by kernel_rfl)
theorem gL' (a:Value):argsOk "set_iterator.__iter__" ⟨[a],[]⟩:=by
 unfold argsOk
 rw [signature?_of (id := "set_iterator.__iter__") (n:=['_','_','r','e','t','i','_','_']) (o:=['r','o','t','a','r','e','t','i','_','t','e','s']) (by kernel_rfl) gt']
 kernel_rfl
theorem SitAt.type {I S:Addr}{slot k n ep:Nat} (h:SitAt s.heap I S slot k n ep):s.TypeIs (.ref I) "set_iterator":=by
 obtain ⟨o,h1,h2,_⟩:=h
 exact ⟨o,h1,h2⟩
theorem SetIs.type {S:Addr}{es:Array (Int×Value)}{ep:Nat}{t:SetTable} (h:SetIs s.heap S es ep t):s.TypeIs (.ref S) "set":=by
 obtain ⟨o,h1,h2,_⟩:=h
 exact ⟨o,h1,h2⟩
theorem mz' {S:Addr}{es:Array (Int×Value)}{ep:Nat}{t:SetTable} (T:TabOk t es) (hS:SetIs s.heap S es ep t){Q:Value->Shared->Prop}
  (q:Q (.ref s.heap.objs.size) { s with heap:=s.heap.push { cls:=.type "set_iterator", data:=.fields #[.int 0 0,.int 0 0,.ref S,.int es.size 0,.int ep 0] } }):wpAny (model prog w) A (pyIter (.ref S)) Q E s:=by
 have hT:=hS.type
 obtain ⟨o,ho,hc,hd⟩:=hS
 refine wpAny_pyIter_slot hT F.slot_set_iter (wpAny_call_entry F.slot_set_iter hT fY' ?_ (F.args_set_iter_1 _))
 refine wpAny_bind (m:=slot0 "__iter__" ⟨[.ref S],[]⟩) (wpAny_bind (wpAny_pure (wpAny_pure ?_)))
 refine wpAny_bind (m:=Builtin.Frozenset.sizeOf S) (wpAny_bind (wpAny_setEntries_of ho hd T.fits (wpAny_pure ?_)))
 refine wpAny_bind (m:=setDrawn S) ?_
 unfold setDrawn
 refine wpAny_bind (wpAny_setState_of ho hd T.fits ?_)
 dsimp only
 refine wpAny_bind (fZ' (wpAny_pure ?_))
 have z:(!byTx w&&(!t.plain&&decide (es.size > 1)))=false:=by rw [T.pl];simp
 show wpAny _ _ (if (!byTx w&&(!t.plain&&decide (es.size > 1)))=true then _ else _) _ _ _
 rw [z,if_neg Bool.false_ne_true]
 refine wpAny_bind (wpAny_pure (wpAny_bind ?_));unfold setEpoch
 refine wpAny_bind (wpAny_setState_of ho hd T.fits (wpAny_pure ?_))
 exact wpAny_bind (wpAny_newObj_type (wpAny_pure ⟨_,rfl, "set_iterator", _,⟨_,get?_push_size _ rfl,rfl⟩,b6'.lookup,q⟩))
theorem og' (hh:A.handled=none){Q:Option Value->Shared->Prop} (q:∀ h',(∀ b o,s.heap.get? b=some o->h'.get? b=some o)->Q none { s with heap:=h' }) :
  wpAny (model prog w) A (newExc (.type "StopIteration") [] >>= λe=>(raiseNew e:Sem PySem.Fin)) (λ_ _=>False) (λe s'=>wpAny (model prog w) A (isInstance e (.type "StopIteration")) (λb fG=>b=true/\Q none fG) (λ_ _=>False) s') s:=by
 refine wpAny_bind ?_
 unfold newExc newTuple
 refine wpAny_bind (wpAny_newObj_type (wpAny_bind (m:=firstArgMember _ _) (wpAny_of_eq (a:=Value.none) (by first | rfl | (simp only [firstArgMember];rfl)) (wpAny_newObj_type ?_ (by size_fits)))) (by size_fits))
 unfold raiseNew
 refine wpAny_bind (wpAny_handled ?_);rw [hh]
 refine wpAny_bind (wpAny_pure (wpAny_throw ?_));refine wpAny_isInstance (T := "StopIteration") (b:=true) ⟨_,get?_push_size _ rfl,rfl⟩ isSubtype_stop ⟨rfl,q _ λb o x=>?_⟩
 exact get?_push_of_some _ (get?_push_of_some _ x)
theorem k4' {I S:Addr}{es:Array (Int×Value)}{ep k:Nat}{t:SetTable} (T:TabOk t es) (led:t.led=!byTx w) (hI:SitAt s.heap I S (slotAt w t k) k es.size ep) (hS:SetIs s.heap S es ep t) (hk:k < es.size){Q:Option Value->Shared->Prop}
  (q:∀ v h',(walkOf w S ep es)[k]?.map (·.2)=some v->SitAt h' I S (slotAt w t (k+1)) (k+1) es.size ep->KeptBut I s.heap h'->Q (some v) { s with heap:=h' }):wpAny (model prog w) A (pyNext (.ref I)) Q E s:=by
 have hT:=hI.type
 obtain ⟨o,ho,hc,hd⟩:=hI
 obtain ⟨oS,kj,rq,km⟩:=id hS
 unfold pyNext
 refine wpAny_bind (wpAny_attempt (wpAny_callSpecial?_slot (name:=ofString "__next__") hT b6' (wpAny_call_entry b6' hT gu' ?_ (hL' _))))
 refine wpAny_bind (m:=slotArgs "__next__" 0 ⟨[.ref I],[]⟩) (wpAny_pure ?_)
 refine wpAny_bind (wpAny_fieldsOf ho hd ?_);refine wpAny_bind (wpAny_setEntries_of kj km T.fits ?_)
 rw [if_neg (by simp)]
 dsimp only
 have lt:k < (walkOf w S ep es).size:=by rw [cU'];exact hk
 refine wpAny_bind (m:=setNext S _ _ _) ?_
 simp only [toNat_natCast]
 refine i3' T led hS (le_of_lt hk) ?_
 rw [Array.getElem?_eq_getElem lt,map_some]
 dsimp only
 refine wpAny_bind (wpAny_setField ho hd (by simp) ?_);obtain ⟨h1,e1⟩:∃ h1,h1=s.heap.update I (Obj.mapFields (·.setIfInBounds 0 (rawInt ((slotAt w t (k+1):Nat):Int)))):=⟨_,rfl⟩
 have ko:=get?_update_self (Obj.mapFields (·.setIfInBounds 0 (rawInt ((slotAt w t (k+1):Nat):Int)))) ho (Obj.isFreed_of_fields (data_mapFields hd _))
 have kq:=data_mapFields hd (·.setIfInBounds 0 (rawInt ((slotAt w t (k+1):Nat):Int)))
 have k1:KeptBut I s.heap h1:=λb o ne x=>by rw [e1];exact (get?_update_other _ _ (Ne.symm ne)).trans x
 rw [← e1] at ko ⊢
 refine wpAny_bind (wpAny_setField ko kq (by simp) (wpAny_pure ⟨_,rfl,wpAny_pure (q _ _ (by rw [Array.getElem?_eq_getElem lt];rfl) ⟨_,get?_update_self _ ko (Obj.isFreed_of_fields (data_mapFields kq _)),?_,?_⟩ λb o ne x=>(get?_update_other _ _ (Ne.symm ne)).trans (k1 b o ne x))⟩))
 ·exact ((Obj.cls_mapFields ..).trans (Obj.cls_mapFields ..)).trans hc
 ·rw [data_mapFields kq]
  simp [rawInt]
theorem mA' (hh:A.handled=none){I S:Addr}{es:Array (Int×Value)}{ep:Nat}{t:SetTable} (T:TabOk t es) (led:t.led=!byTx w) (hI:SitAt s.heap I S (slotAt w t es.size) es.size es.size ep) (hS:SetIs s.heap S es ep t){Q:Option Value->Shared->Prop}
  (q:∀ h',KeptBut I s.heap h'->Q none { s with heap:=h' }):wpAny (model prog w) A (pyNext (.ref I)) Q E s:=by
 have hT:=hI.type
 obtain ⟨o,ho,hc,hd⟩:=hI
 obtain ⟨oS,kj,rq,km⟩:=id hS
 unfold pyNext
 refine wpAny_bind (wpAny_attempt (wpAny_callSpecial?_slot (name:=ofString "__next__") hT b6' (wpAny_call_entry b6' hT gu' ?_ (hL' _))))
 refine wpAny_bind (m:=slotArgs "__next__" 0 ⟨[.ref I],[]⟩) (wpAny_pure ?_)
 refine wpAny_bind (wpAny_fieldsOf ho hd ?_);refine wpAny_bind (wpAny_setEntries_of kj km T.fits ?_)
 rw [if_neg (by simp)]
 dsimp only
 refine wpAny_bind (m:=setNext S _ _ _) ?_
 simp only [toNat_natCast]
 refine i3' T led hS (le_refl _) ?_
 rw [getElem?_eq_none (by rw [cU'];exact le_refl _),Option.map_none]
 dsimp only
 refine wpAny_bind (wpAny_setField ho hd (by simp) ?_);refine wpAny_mono (og' (A:=A.in1) (s:={ s with heap:=_ }) (Q:=Q) hh λh' keep=>q h' λb o ne x=>keep b o ((get?_update_other _ _ (Ne.symm ne)).trans x)) (λ_ _ x=>x.elim) λe s' h=>?_
 refine wpAny_bind (wpAny_mono (wpAny_of_in1 h) (λb fG hb=>?_) λ_ _ x=>x.elim)
 obtain ⟨rfl,hq⟩:=hb
 exact wpAny_pure hq
theorem k5' (hh:A.handled=none){I S:Addr} (ne:S≠I){es:Array (Int×Value)}{ep:Nat}{t:SetTable} (T:TabOk t es) (led:t.led=!byTx w) :
  Walks prog w A I [I,S] [I] es.size (λk v=>(walkOf w S ep es)[k]?.map (·.2)=some v) (λk h=>SitAt h I S (slotAt w t k) k es.size ep/\SetIs h S es ep t) where
 sub:=λb hb=>by
  rw [mem_singleton.mp hb]
  exact mem_cons_self
 frame:=λk h h' st keep=>by
  obtain ⟨⟨o,a1,a2⟩,⟨o',b1,b2⟩⟩:=st
  exact ⟨⟨o,keep I (by simp) o a1,a2⟩,⟨o',keep S (by simp) o' b1,b2⟩⟩
 item:=λk s Q E hk st q=>k4' T led st.1 st.2 hk λv h' e si kb=>by
  refine q v h' s.toks e ⟨si,?_⟩ λb o nb x=>kb b o (λz=>nb (by rw [z];simp)) x
  obtain ⟨o',b1,b2⟩:=st.2
  exact ⟨o',kb S o' ne b1,b2⟩
 done:=λs Q E st q=>mA' hh T led st.1 st.2 λh' kb=>q h' s.toks λb o nb x=>kb b o (λz=>nb (by rw [z];simp)) x
 self:=λk s Q E st q=>by
  have hT:=st.1.type
  exact wpAny_pyIter_slot hT hM' (wpAny_call_entry hM' hT f0' (wpAny_pure ⟨_,rfl, "set_iterator", _,hT,b6'.lookup,q⟩) (gL' _))
end
section
variable {prog:Program}{w:World}{A:Around}{E:Value->Shared->Prop}{s:Shared}
theorem k6' {xs:Array Value}{am:Array Value} (h:ItemsOf (λk v=>xs[k]?=some v) am xs.size):am=xs:=by
 refine Array.ext h.1 λi h1 h2=>?_
 have:=h.2 i am[i] (Array.getElem?_eq_getElem h1)
 change xs[i]?=some am[i] at this
 rw [Array.getElem?_eq_getElem h2] at this
 exact Eq.symm (Option.some.inj this)
theorem mB' {S:Addr}{Q:Bool->Shared->Prop} (hT:s.TypeIs (.ref S) "set") (q:Q false s):wpAny (model prog w) A (listLengthHint (.ref S)) Q E s:=by
 unfold listLengthHint;refine wpAny_bind (wpAny_specialOf hT F.slot_set_len.lookup ?_)
 have sp:splitId "set.__len__"=some ("set", "__len__"):=by decide +kernel
 dsimp only
 rw [sp]
 dsimp only
 refine wpAny_bind (wpAny_isInstance hT sub_set_self ?_);rw [if_neg (by decide)]
 exact wpAny_bind (wpAny_typeOf hT (wpAny_pure q))
theorem oh' (hh:A.handled=none){S:Addr}{es:Array (Int×Value)}{ep:Nat}{t:SetTable} (T:TabOk t es) (led:t.led=!byTx w) (hS:SetIs s.heap S es ep t){Q:List Value->Shared->Prop}
  (q:∀ h' tk,(∀ b o,s.heap.get? b=some o->h'.get? b=some o)->s.heap.objs.size<=h'.objs.size->Q ((walkOf w S ep es).toList.map (·.2)) { s with heap:=h',toks:=tk }):wpAny (model prog w) A (collect (.ref S)) Q E s:=by
 have line:310<=sizeLine:=by rw [sizeLine_eq];decide
 have few:es.size<=300:=by have:=T.few;have:=T.sz;omega
 have dY:S < s.heap.objs.size:=by
  obtain ⟨o,ho,_⟩:=hS
  exact lt_size ho
 unfold collect
 refine wpAny_bind (wpAny_runValue (codeAny_builtin F.entry_proto_collect ?_));rw [under_plainId F.plain_proto_collect _]
 refine wpAny_bind (m:=newList []) (wpAny_newObj_type (wpAny_pure ⟨plainId_quiet F.plain_list_iadd _,codeAny_builtin F.entry_list_iadd ?_⟩))
 rw [under_plainId F.plain_list_iadd _];obtain ⟨h1,e1⟩:∃ h1,h1=s.heap.push { cls:=.type "list", data:=.seq ([]:List Value).toArray }:=⟨_,rfl⟩
 have db:h1.objs.size=s.heap.objs.size+1:=by rw [e1,size_push]
 have bJ:∀ b o,s.heap.get? b=some o->h1.get? b=some o:=λb o x=>by rw [e1];exact get?_push_of_some _ x
 have cb:h1.get? s.heap.objs.size=some { cls:=.type "list", data:=.seq ([]:List Value).toArray }:=by rw [e1];exact get?_push_size _ rfl
 rw [← e1]
 have dz:SetIs h1 S es ep t:=by
  obtain ⟨o,ho,r⟩:=hS
  exact ⟨o,bJ _ _ ho,r⟩
 have dj:s.heap.objs.size≠S:=ne_of_gt dY
 show wpAny _ A.in1 (listExtendWith (.ref s.heap.objs.size) (.ref S) (.ref s.heap.objs.size)) _ _ { s with heap:=h1 }
 unfold listExtendWith;refine wpAny_bind (wpAny_typeOf (s:={ s with heap:=h1 }) dz.type ?_)
 rw [if_neg (by simp [listSameRef,dj])]
 refine wpAny_bind (mz' (s:={ s with heap:=h1 }) T dz ?_)
 obtain ⟨I,eI⟩:∃ I,I=h1.objs.size:=⟨_,rfl⟩
 obtain ⟨h2,e2⟩:∃ h2,h2=h1.push { cls:=.type "set_iterator", data:=.fields #[.int 0 0,.int 0 0,.ref S,.int es.size 0,.int ep 0] }:=⟨_,rfl⟩
 have de:∀ b o,h1.get? b=some o->h2.get? b=some o:=λb o x=>by rw [e2];exact get?_push_of_some _ x
 have gS:SitAt h2 I S (slotAt w t 0) 0 es.size ep:=⟨_,by rw [e2,eI];exact get?_push_size _ rfl,rfl,by unfold slotAt;split<;>rfl⟩
 have gT:SetIs h2 S es ep t:=by
  obtain ⟨o,ho,r⟩:=dz
  exact ⟨o,de _ _ ho,r⟩
 show wpAny _ _ _ _ _ { s with heap:=h1.push _ }
 rw [← e2]
 rw [← eI]
 refine wpAny_bind (wpAny_holding (mB' (s:={ s with heap:=h2 }) gT.type ?_))
 rw [if_pos (by decide +kernel)]
 refine wpAny_bind (wpAny_rule (wpAny_bind (m:=listTouch (.ref s.heap.objs.size)) ?_))
 have cf:=de _ _ cb
 refine wpAny_bind (m:=updateSeq s.heap.objs.size (·.push .none)) (wpAny_updateSeq cf rfl ?_ (by simp) (by simp))
 have cB:=get?_update_self (mapSeq (·.push Value.none)) cf rfl
 refine wpAny_updateSeq cB rfl ?_ (by show (#[Value.none]:Array Value).size<=_;simp;omega) (by simp)
 have cg:=get?_update_self (mapSeq (·.pop)) cB rfl
 obtain ⟨h4,e4⟩:∃ h4,h4=((h2.update s.heap.objs.size (mapSeq (·.push Value.none))).update s.heap.objs.size (mapSeq (·.pop))):=⟨_,rfl⟩
 have b9:KeptBut s.heap.objs.size h2 h4:=λb o ne x=>by rw [e4];exact (get?_update_other _ _ (Ne.symm ne)).trans ((get?_update_other _ _ (Ne.symm ne)).trans x)
 rw [← e4] at cg
 show wpAny _ _ _ _ _ { s with heap:=Heap.update (Heap.update h2 _ _) _ _ }
 rw [← e4]
 have eN:s.heap.objs.size≠I:=by rw [eI,db];exact ne_of_lt (lt_succ_self _)
 have gU:S≠I:=by rw [eI,db];exact ne_of_lt (lt_succ_of_lt dY)
 have W:=(k5' (prog:=prog) (w:=w) (A:=A.in1) (ep:=ep) (by exact hh) gU T led).toS
 refine wpAny_pure ⟨plainId_quiet F.plain_extend_loop _,codeAny_extend_loopS W (by omega) s.heap.objs.size (by simp [eN,dj]) _ es.size 0 _ _ _ rfl (zero_le _) ?_ cg (ItemsOf.nil _) λs' am c mv aG it=>?_⟩
 ·obtain ⟨o,a1,a2⟩:=gS
  obtain ⟨o',b1,b2⟩:=gT
  exact ⟨⟨o,b9 _ _ (Ne.symm eN) a1,a2⟩,⟨o',b9 _ _ (Ne.symm dj) b1,b2⟩⟩
 ·obtain ⟨h',g',d',cF,et⟩:=s';have eg:g'=s.gens:=mv.gens
  have ed:d'=s.drawn:=mv.drawn
  have eo:et=s.os:=mv.os
  subst eg;subst ed;subst eo
  refine wpAny_bind (wpAny_load aG (wpAny_pure ?_))
  have size:es.size=((walkOf w S ep es).map (·.2)).size:=by rw [Array.size_map,cU']
  have all:am=(walkOf w S ep es).map (·.2):=k6' (by
   rw [← size]
   refine ⟨it.1,λj v hj=>?_⟩
   have:=it.2 j v hj
   show ((walkOf w S ep es).map (·.2))[j]?=some v
   rw [Array.getElem?_map]
   exact this)
  have lt':s.heap.objs.size < h'.objs.size:=lt_size aG
  have:=q h' cF (λb o x=>mv.heap b o (λhb=>?_) (b9 b o (ne_of_lt (lt_size x)) (de _ _ (bJ _ _ x)))) (le_of_lt lt')
  ·rw [all]
   simpa using this
  ·have lb:=lt_size x
   rcases mem_cons.mp hb with z | z
   ·exact ne_of_lt lb z
   ·rw [mem_singleton.mp z,eI,db] at lb
    exact absurd lb (not_lt.mpr (le_succ _))
end
section
variable {prog:Program}{w:World}{A:Around}{E:Value->Shared->Prop}{s:Shared}
noncomputable def fresh0 (w:World):Obj:={ cls:=.type "set", dict:=none,data:=.set #[] 0 (.fresh 0 0 (!byTx w)) }
theorem oi' (a:Value){Q:Value->Shared->Prop} (q:Q (.ref s.heap.objs.size) { s with heap:=s.heap.push (fresh0 w) }) :
  codeAny (model prog w) A (.call (.builtin "set.__new__") ⟨[.type "set", a],[]⟩) (wants Q E) s:=by
 refine codeAny_of_tree (wpAny_bind (m:=checkBuiltinCall "set.__new__" ⟨[.type "set", a],[]⟩) (wpAny_of_eq (PySem.F.newCall_set_1 a) (wpAny_pure ⟨plainId_quiet F.plain_set_new _,codeAny_builtin F.entry_set_new ?_⟩)))
 rw [under_plainId F.plain_set_new _];unfold Builtin.«set.__new__» newClass
 have gJ:=sub_set_self
 obtain ⟨hp,g,d,tk,os⟩:=s;dsimp only
 wp_walk
 refine wpAny_askSetting (wpAny_pure (wpAny_bind (wpAny_alloc (wpAny_pure (wpAny_pure q)))))
theorem mC' (w:World):TabOk (.fresh 0 0 (!byTx w)) #[]:=by
 refine ⟨rfl,λi j hi=>?_,rfl,λi hi=>?_,⟨zero_le _,.inr (.inr (.inr ⟨rfl,zero_le _⟩))⟩,rfl,λi hi=>?_⟩
 all_goals exact absurd hi (not_lt_zero _)
variable {X:Cx}{aa:List (Addr×Obj)}{U:L2.St}{H:Hp}
end
section
variable {X:Cx}{aa:List (Addr×Obj)}{U:L2.St}{H:Hp}{s:Shared}{A:Around}
theorem eR' {α:Type}:∀ (l m:List α),l.Nodup->(∀ x∈l,x∈m)->m.length<=l.length->l.Perm m
 | [],m,_,_,h=>by rw [length_eq_zero_iff.mp (Nat.le_zero.mp h)]
 | x::l,m,nd,h,len=>by
  obtain ⟨a,b,rfl⟩:=append_of_mem (h x mem_cons_self)
  rw [nodup_cons] at nd
  have p:=eR' l (a++b) nd.2 (λy hy=>by
   have:=h y (mem_cons_of_mem _ hy)
   rcases mem_append.mp this with z | z
   ·exact (mem_append_left _ z)
   ·rcases mem_cons.mp z with z | z
    ·subst z;exact absurd hy nd.1
    ·exact mem_append_right _ z) (by simp at len ⊢;omega)
  exact (p.cons x).trans perm_middle.symm
end
end DL
namespace DL
open PySem PySem.W PySem.Spec PyProof.Rows L2
section
variable {X:Cx}{B:BB}{a st e:Expr}{pos p p2:Pos}{ga gs:M D}
noncomputable def rRv (K:PySem.W.Frag):R2:=λx y H Q=>∃ b xs,x=.ref b/\y=.int (-1)/\SqL K H b xs/\∀ l,H l=none->Q (.ref l) (upd H l (.lst xs.reverse))
theorem Vals.rev:∀ {xs:List V}{us:List Value},Vals xs us->Vals xs.reverse us.reverse:=λ{xs us} h=>by
 refine cw' (by simp [h.length]) λi x u e f=>?_
 have l:=h.length
 have hi:i < xs.length:=by
  rcases lt_or_ge i xs.length with z | z
  ·exact z
  ·rw [List.getElem?_eq_none (by simpa using z)] at e;cases e
 rw [List.getElem?_reverse hi] at e
 rw [List.getElem?_reverse (by omega)] at f
 obtain ⟨u',e1,e2⟩:=h.get e
 rw [l,f] at e1
 cases e1
 exact e2
theorem pW' {ta ts:TE} (he:PE X a ta) (hs:PE X st ts):PE X (.Subscript a (.Slice none none (some st) p2) pos) (tOp (rRv X.K) ta ts):=by
 intro aa s U H Q I h
 refine Subscript_ (thn (he aa s U H _ I h) λv s1 ⟨x,H1,I1,r1,q1⟩=>?_)
 refine wpAny_Slice ?_
 rw [evalPart_none,evalPart_some]
 refine wpAny_pure (wpAny_pure (thn (hs aa s1 U H1 _ I1 q1) λvk s2 ⟨y,H2,I2,r2,q2⟩=>?_))
 obtain ⟨b,xs,rfl,rfl,hx,q⟩:=q2
 cases r1
 have I3:Inv X aa U H2 { s2 with heap:=s2.heap.push { cls:=.type "slice", data:=.fields #[.none,.none,vk] } }:=I2.kept (t':=s2.toks) λb ob q=>get?_push_of_some _ q
 obtain ⟨af,r,ht,hz⟩:=I3.list hx
 have aM:=r.length
 show wpAny (model X.prog X.w) X.A (subscriptTail a (.Slice none none (some st) p2) (.ref b) (.ref s2.heap.objs.size)) (EP X aa U Q) X.xe { s2 with heap:=s2.heap.push { cls:=.type "slice", data:=.fields #[.none,.none,vk] } }
 refine tail_any (ops:=[.ref b,.ref s2.heap.objs.size]) ht.isList.typeIs slot_list_getitem.lookup ?_ (by with_unfolding_all rfl)
 obtain ⟨tk,rfl⟩:=r2
 refine wpAny_getItem_list_slice ht.isList (Heap.IsSliceOf.new ..) .none .none (.int _ _) (by simp) ?_ (by rw [size_toArray]<;>omega)
 rw [krv_pick]
 refine ⟨.ref _,_,I3.laid (t':=s2.toks) (o:=.lst xs.reverse) (λb ob q=>get?_push_of_some _ q) (le_refl _) ?_,rfl,q _ (I3.hok.fresh (le_refl _))⟩
 exact ⟨by rw [length_reverse];exact hz,_,0,Vals.rev r,get?_push_size _ rfl⟩
noncomputable def rvF (c k:D):Option (List D):=match c,k with
 | .lst ds,.int j=>if j=-1 then some ds.reverse else none
 | _,_=>none
theorem pX' (ha:ED X B a ga) (hs:ED X B st gs):EO X B (.Subscript a (.Slice none none (some st) p2) pos) (op2 rvF ga gs):=PE.imp (pW' ha hs) (nx' λa b d e B G I H U Z x y Q r hx hy k=>by
 unfold rvF at e
 split at e
 ·obtain ⟨rfl,rfl⟩:=aq' e
  obtain ⟨q,zs,rfl,h3,h4⟩:=ar' hx
  exact ⟨q,zs,rfl,al' hy,(Same.rdK r.iH h3).sq,λl hl=>k.new r hl h4.reverse⟩
 ·cases e)
end
end DL
namespace DL
open PySem
end DL
namespace DL
open PySem PySem.W PySem.Spec PyProof.Rows L2
section
variable {X:Cx}{B:BB}{pos:Pos}{c e:Expr}{st:Stmt}{ss sa sb body:List Stmt}{g h:M Fl}{tc:M Bool}{ga:M D}
@[irreducible] def SI (X:Cx) (B:BB) (st:Stmt) (g:M Fl):Prop:=SD X B st g
@[irreducible] def SIs (X:Cx) (B:BB) (ss:List Stmt) (g:M Fl):Prop:=SDs X B ss g
theorem an' (k:SD X B st g):SI X B st g:=by unfold SI;exact k
theorem aM' (k:SIs X B ss g):SDs X B ss g:=by unfold SIs at k;exact k
theorem aZ':SIs X B [] (ret .nx):=by unfold SIs;exact nX'
theorem ak' (k:SI X B st g):SIs X B [st] g:=by unfold SI at k;unfold SIs;exact nY' k
theorem af' (k:SI X B st g) (t:SIs X B ss h):SIs X B (st::ss) (seqS g h):=by unfold SI at k;unfold SIs at t ⊢;exact mc' k t
theorem a0' (hc:TD X B c tc) (ha:SIs X B sa g) (hb:SIs X B sb h):SI X B (.If c sa sb pos) (ifS tc g h):=by unfold SIs at ha hb;unfold SI;exact qy' hc ha hb
theorem bB' {m:Nat}{iter tg:Expr}{it:M (List D)}{ay:D->M Unit} (hp:PassesOwn (model X.prog X.w) X.A X.env X.xe) (hc:X.calm=true) (hi:ITD X B tg iter it) (hg:GD X B m tg ay) (hb:SIs X B body g)
  (hs:∀ x,foldedSetIterable iter X.env x=pure x:=by intro _;rfl):SI X B (.For tg iter body [] pos) (forS it ay g):=by unfold SIs at hb;unfold SI;exact pL' hp hc hi hg hb hs
theorem as' {i:Nat}{x:Str}{az:Pos} (hN:X.N.Nodup) (he:ED X B e ga) (hi:X.N[i]?=some x:=by rfl) (hx:locB X.env.scope x=true:=by rfl) (hs:swapsWith e (some (.Name x az)) pos.line X.env=pure false:=by rfl)
  (hf:fnB X x=true:=by rfl):SI X B (.Assign [.Name x az] e pos) (setV i ga):=by unfold SI;exact pI' hN he hi hx hs hf
end
noncomputable def valD:List (Int×D)->Int->Option D
 | [],_=>none
 | p::r,k=>if p.1=k then some p.2 else valD r k
section
variable {K:PySem.W.Frag}{I:Hp}
theorem IsK.nil:IsK K I [] []:=⟨rfl,IsA.nil⟩
theorem IsK.cons_inv {p:Int×D}{ah:List (Int×D)}{xs:List (Key×V)} (h:IsK K I (p::ah) xs):∃ v r,xs=(Sum.inl p.1,v)::r/\Is K I p.2 v/\IsK K I ah r:=by
 obtain ⟨h1,h2⟩:=h
 cases xs with
 | nil=>simp at h1
 | cons x r =>
  obtain ⟨a,v⟩:=x
  simp only [map_cons,List.cons.injEq] at h1
  obtain ⟨rfl,h1⟩:=h1
  rw [map_cons,map_cons] at h2
  obtain ⟨y,r',e,g1,g2⟩:=h2.cons_inv
  cases e
  exact ⟨v,r,rfl,g1,h1,g2⟩
theorem IsK.nil_inv {xs:List (Key×V)} (h:IsK K I [] xs):xs=[]:=by
 have:=h.1
 simpa using this
theorem IsK.val {k:Int}:∀ {ah:List (Int×D)}{xs:List (Key×V)},IsK K I ah xs->(∃ d v,valD ah k=some d/\valV xs (Sum.inl k)=some v/\Is K I d v)\/(valD ah k=none/\valV xs (Sum.inl k)=none)
 | [],xs,h=>by rw [h.nil_inv];exact .inr ⟨rfl,rfl⟩
 | p::ah,xs,h=>by
  obtain ⟨v,r,rfl,h1,h2⟩:=h.cons_inv
  by_cases e:p.1=k
  ·refine .inl ⟨p.2,v,by rw [valD,if_pos e],?_,h1⟩
   exact dn' (by show Sum.inl p.1=Sum.inl k;rw [e])
  ·have e':¬ ((Sum.inl p.1:Key)=Sum.inl k):=λz=>e (Sum.inl.inj z)
   rw [valD,if_neg e,do' e']
   exact IsK.val h2
theorem IsK.snoc {k:Int}{d:D}{v:V}:∀ {ah:List (Int×D)}{xs:List (Key×V)},IsK K I ah xs->Is K I d v->IsK K I (ah++[(k,d)]) (xs++[(Sum.inl k,v)])
 | ah,xs,h,hd=>by
  refine ⟨by simp [h.1],?_⟩
  rw [map_append,map_append]
  exact IsA.append h.2 (IsA.cons hd IsA.nil)
theorem IsK.len {ah:List (Int×D)}{xs:List (Key×V)} (h:IsK K I ah xs):xs.length=ah.length:=by
 have:=congrArg length h.1
 simpa using this
end
section
variable {K:PySem.W.Frag}{B:BB}{G I H:Hp}{U:L2.St}{Z:Gm}
theorem Rep.writeK (r:Rep K B G I H U Z){i:Nat}{ah gW:List (Int×D)}{p:Addr}{ys:List (Key×V)} (hq:Z[i]?=some (some (.dic ah))) (hs:U[i]?=some (some (.ref p))) (hd:IsK K I gW ys) :
  Rep K B G I (upd H p (.dK ys)) U (Z.set i (some (.dic gW))):=by
 obtain ⟨v,e1,e2⟩:=r.slot i _ hq
 obtain ⟨p',aW,h1,h2,h3,h4,_⟩:=e2
 have hp:p'=p:=by rw [hs] at e1;subst h1;cases e1;rfl
 subst hp
 have bO:∀ (j:Nat) (r':R),j≠i->Z[j]?=some (some r')->r'.ptr=true->U[j]?≠some (some (.ref p')):=λj r' n z m s=>n (r.dist j i r' _ _ z hq m rfl s hs)
 have sI:Same I (upd H p' (.dK ys)):=λb u z=>by
  have ne:b≠p':=λe=>by subst e;rw [h3] at z;cases z
  rw [ae' ne];exact r.iH b u z
 have sG:Same G (upd H p' (.dK ys)):=λb u z=>by
  have ne:b≠p':=λe=>by subst e;rw [h4] at z;cases z
  rw [ae' ne];exact r.gH b u z
 have r1:Rep K B G I (upd H p' (.dK ys)) U (Z.set i none):={
  iH:=sI,gH:=sG,len:=by rw [length_set];exact r.len
  slot:=λj q1 e=>by
   rcases ax' e with ⟨_,z,_⟩ | ⟨n,z⟩
   ·cases z
   obtain ⟨w,e3,e4⟩:=r.slot j q1 z
   refine ⟨w,e3,?_⟩
   have mt:q1.ptr=true->∀ ds,Mt K G I H ds w->Mt K G I (upd H p' (.dK ys)) ds w:=λm ds hh=>by
    obtain ⟨p2,eA,g1,g2,g3,g4,g5⟩:=hh
    refine ⟨p2,eA,g1,?_,g3,g4,g5⟩
    have ne:p2≠p':=λz2=>bO j q1 n z m (by rw [e3,g1,z2])
    rw [ae' ne];exact g2
   cases q1 with
   | val d=>exact e4
   | dic ds =>
    obtain ⟨p2,eA,g1,g2,g3,g4,g5⟩:=e4
    refine ⟨p2,eA,g1,?_,g3,g4,g5⟩
    have ne:p2≠p':=λz2=>bO j _ n z rfl (by rw [e3,g1,z2])
    rw [ae' ne];exact g2
   | own ds=>exact mt rfl ds e4
   | bor ds=>exact mt rfl ds e4
   | fro ds=>exact e4
  dist:=(r.forget i).dist
  bor:=(r.forget i).bor }
 have r2:=r1.learn (i:=i) (q:=.dic gW) (v:=.ref p') hs ⟨p',ys,rfl,ag',h3,h4,hd⟩ (λm p2 e j r' n z m' s=>by
  cases e
  rcases ax' z with ⟨_,z',_⟩ | ⟨_,z'⟩
  ·cases z'
  ·exact bO j r' n z' m' s) (λds z=>nomatch z)
 rw [set_set] at r2
 exact r2
end
section
variable (K:PySem.W.Frag) (B:BB)
def KK (G I:Hp) (U:L2.St) (aj:Gm) (ah:List (Int×D)) (Q:VK):Prop:=∀ p xs H' I',Rep K B G I' H' U aj->Grow G I I'->H' p=some (.dK xs)->I' p=none->G p=none->Apart U aj p->IsK K I' ah xs->Q (.ref p) H'
noncomputable def tK (g:M (List (Int×D))):TE:=λU H Q=>∃ G I Z ah aj,Rep K B G I H U Z/\g Z=some (ah,aj)/\KK K B G I U aj ah Q
end
def EK (X:Cx) (B:BB) (e:Expr) (g:M (List (Int×D))):Prop:=PE X e (tK X.K B g)
section
variable {X:Cx}{B:BB}{e k v:Expr}{es:List Expr}{pos p:Pos}{g:M (List (Int×D))}{gk gv:M D}
def setK (i:Nat) (g:M (List (Int×D))):M Fl:=bnd g λd=>bnd (putS i (.dic d)) λ_=>ret .nx
theorem pY' {K:PySem.W.Frag}{i:Nat}:∀ E U H,tS K B (setK i g) E U H->tAsg (tK K B g) (gName i) E U H:=λE U H q=>by
 obtain ⟨G,I,Z,f,aj,r,e1,k⟩:=q
 obtain ⟨d1,ae,e2,e3⟩:=ac' e1
 obtain ⟨d2,ao,e4,e5⟩:=ac' e3
 cases e5
 obtain ⟨hl,rfl⟩:=cD' e4
 exact ⟨G,I,Z,d1,ae,r,e2,λp xs H1 I1 r1 g1 h1 h2 h3 h4 h5=>k _ H1 _ (r1.store (by rw [r1.len];exact hl) ⟨p,xs,rfl,h1,h2,h3,h5⟩ (λ_ p' z=>by cases z;exact h4) (λ_ z=>nomatch z)) g1⟩
theorem i4' {i:Nat}{x:Str}{az:Pos} (hN:X.N.Nodup) (he:EK X B e g) (hi:X.N[i]?=some x:=by rfl) (hx:locB X.env.scope x=true:=by rfl) (hs:swapsWith e (some (.Name x az)) pos.line X.env=pure false:=by rfl)
  (hf:fnB X x=true:=by rfl):SD X B (.Assign [.Name x az] e pos) (setK i g):=PS.imp (g4' hN hi (locI hx) he hs (fnI hf)) pY'
noncomputable def tookK (i:Nat):M (List (Int×D)):=λZ=>match Z[i]? with
 | some (some (.dic ah))=>some (ah,Z.set i none)
 | _=>none
theorem k7' {i:Nat}{Z aj:Gm}{ah:List (Int×D)} (h:tookK i Z=some (ah,aj)):aj=Z.set i none/\Z[i]?=some (some (.dic ah)):=by
 unfold tookK at h
 split at h
 ·rename_i e
  cases h
  exact ⟨rfl,e⟩
 ·cases h
def retK (i:Nat):M Fl:=bnd (tookK i) λd=>ret (.rt (.dic d))
theorem oj' {i:Nat}{y:Str} (he:PE X (.Name y p) (tVar i)):SD X B (.Return (some (.Name y p)) pos) (retK i):=PS.imp (g3' he) λE U H q=>by
 obtain ⟨G,I,Z,f,aj,r,e1,k⟩:=q
 obtain ⟨d1,ae,e2,e3⟩:=ac' e1
 cases e3
 obtain ⟨rfl,aJ⟩:=k7' e2
 obtain ⟨v,h1,h2⟩:=r.slot i _ aJ
 obtain ⟨p',aW,g1,g2,g3,g4,g5⟩:=h2
 refine ⟨v,h1,k U H I (r.forget i) (Grow.refl _ _) v ⟨p',aW,g1,g2,g3,g4,λj q z m s=>?_,g5⟩⟩
 rcases ax' z with ⟨_,z',_⟩ | ⟨n,z'⟩
 ·cases z'
 ·exact n (r.dist j i q _ _ z' aJ m rfl s (by rw [h1,g1]))
noncomputable def lookK (i:Nat):M (List (Int×D)):=λZ=>match Z[i]? with
 | some (some (.dic ah))=>some (ah,Z)
 | _=>none
theorem gx' {K:PySem.W.Frag}{G I H:Hp}{U:L2.St}{Z aj:Gm}{i:Nat}{ah:List (Int×D)} (h:lookK i Z=some (ah,aj)) (r:Rep K B G I H U Z):aj=Z/\Z[i]?=some (some (.dic ah))/\∃ p xs,U[i]?=some (some (.ref p))/\H p=some (.dK xs)/\IsK K I ah xs:=by
 unfold lookK at h
 split at h
 ·rename_i e
  cases h
  obtain ⟨v,h1,p,xs,rfl,g1,_,_,g4⟩:=r.slot i _ e
  exact ⟨rfl,e,p,xs,h1,g1,g4⟩
 ·cases h
noncomputable def inKF (neg:Bool) (d:D) (ah:List (Int×D)):Option Bool:=match d with
 | .int k=>some (if neg then !(valD ah k).isSome else (valD ah k).isSome)
 | _=>none
noncomputable def inK (neg:Bool) (i:Nat) (gk:M D):M Bool:=bnd gk λd=>bnd (lookK i) λah=>lft (inKF neg d ah)
theorem ok' {K:PySem.W.Frag}{I H:Hp}{ah:List (Int×D)}{xs:List (Key×V)}{p:Addr}{k:Int} (h:H p=some (.dK xs)) (hk:IsK K I ah xs):∃ o,DGet H p (.int k) o/\o.isSome=(valD ah k).isSome/\∀ d,valD ah k=some d->∃ v,o=some v/\Is K I d v:=by
 refine ⟨valV xs (Sum.inl k),DGet.k (k:=Sum.inl k) h,?_,λd hd=>?_⟩
 ·rcases hk.val (k:=k) with ⟨d,v,e1,e2,_⟩ | ⟨e1,e2⟩
  ·rw [e1,e2];rfl
  ·rw [e1,e2];rfl
 ·rcases hk.val (k:=k) with ⟨d',v,e1,e2,e3⟩ | ⟨e1,e2⟩
  ·rw [hd] at e1;cases e1;exact ⟨v,e2,e3⟩
  ·rw [hd] at e1;cases e1
theorem ol' {i:Nat}{x:Str}{p1:Pos} (hu:X.A.units+1 < cLine) (ha:ED X B k gk) (hv:PE X (.Name x p1) (tVar i)):TD X B (.Compare k [.NotIn] [.Name x p1] pos) (inK true i gk):=PT.imp (pb' (ku' hu ha hv) rfl) λU H Q q=>by
 obtain ⟨G,I,Z,b,aj,r,e1,kk⟩:=q
 obtain ⟨d,ae,e2,e3⟩:=ac' e1
 obtain ⟨ah,ao,e4,e5⟩:=ac' e3
 obtain ⟨e6,rfl⟩:=am' e5
 refine ⟨G,I,Z,d,ae,r,e2,λy H1 I1 r1 g1 hd=>?_⟩
 obtain ⟨rfl,_,a,xs,f1,f2,f3⟩:=gx' e4 r1
 unfold inKF at e6
 split at e6
 ·rename_i n
  cases e6
  have:=al' hd
  subst this
  obtain ⟨o,o1,o2,_⟩:=ok' (k:=n) f2 f3
  refine ⟨_,f1,a,o,rfl,o1,?_⟩
  rw [o2]
  exact ⟨_,rfl,kk H1 I1 r1 g1⟩
 ·cases e6
end
section
variable {prog:Program}{w:World}{A:Around}{E:Value->Shared->Prop}{s:Shared}
theorem k8' {S:Addr}{Q:Bool->Shared->Prop} (hT:s.TypeIs (.ref S) "dict") (q:Q false s):wpAny (model prog w) A (listLengthHint (.ref S)) Q E s:=by
 unfold listLengthHint;refine wpAny_bind (wpAny_specialOf hT F.slot_dict_len.lookup ?_)
 have sp:splitId "dict.__len__"=some ("dict", "__len__"):=by decide +kernel
 dsimp only
 rw [sp]
 dsimp only
 refine wpAny_bind (wpAny_isInstance hT F.sub_dict_dict ?_);rw [if_neg (by decide)]
 exact wpAny_bind (wpAny_typeOf hT (wpAny_pure q))
end
section
variable {X:Cx}{B:BB}{e k v f':Expr}{es:List Expr}{pos p:Pos}{g:M (List (Int×D))}{gk gv gx:M D}{kr:Nat}
noncomputable def keysD (ah:List (Int×D)):List D:=ah.map λq=>D.int q.1
noncomputable def wrK (i:Nat) (F:List (Int×D)->Option (List (Int×D))):M Fl:=λZ=>match Z[i]? with
 | some (some (.dic ah))=>match F ah with
  | some es=>some (.nx,Z.set i (some (.dic es)))
  | none=>none
 | _=>none
theorem om' {i:Nat}{F:List (Int×D)->Option (List (Int×D))}{Z aj:Gm}{f:Fl} (h:wrK i F Z=some (f,aj)):f=.nx/\∃ ah es,Z[i]?=some (some (.dic ah))/\F ah=some es/\aj=Z.set i (some (.dic es)):=by
 unfold wrK at h
 split at h
 ·rename_i ah e
  split at h
  ·rename_i es e2
   cases h
   exact ⟨rfl,ah,es,e,e2,rfl⟩
  ·cases h
 ·cases h
noncomputable def ckF (h:List R->Option (R×List R)) (ds:List D):Option (List (Int×D)):=match h (ds.map .val) with
 | some (.dic d,_)=>some d
 | _=>none
theorem t_ck {K:PySem.W.Frag}{E:XK}{h:List R->Option (R×List R)}{t:M (List D)}:∀ U H Q,tK K B (fn1 (ckF h) t) U H Q->tCall (spD K h) [] E (tAD K B t) U H Q:=λU H Q q=>by
 obtain ⟨G,I,Z,d,aj,r,e1,kk⟩:=q
 obtain ⟨ds,ae,e2,e3⟩:=ac' e1
 obtain ⟨e4,rfl⟩:=am' e3
 refine ⟨G,I,Z,ds,_,r,e2,λvs H1 I1 r1 g1 h1=>?_⟩
 show spD K h (vs++[]) H1 Q E
 rw [append_nil]
 unfold ckF at e4
 cases e5:h (ds.map .val) with
 | none=>rw [e5] at e4;cases e4
 | some q =>
  obtain ⟨rr,aT⟩:=q
  rw [e5] at e4
  cases rr with
  | dic d' =>
   cases e4
   refine ⟨H1,I1,ds.map .val,.dic d,aT,b2' r1 h1,bs' ds,e5,λv H' I' r' g' hv=>?_⟩
   obtain ⟨r2,g2⟩:=co' r1 r' g'
   obtain ⟨q,xs,rfl,b2,b3,b4,b5,b6⟩:=hv
   exact kk q xs H' I' r2 (g1.trans g2) b2 b3 (r1.gFree b4) (r1.apart b4) b6
  | val _=>cases e4
  | own _=>cases e4
  | bor _=>cases e4
  | fro _=>cases e4
theorem on' {kn:Nat}{f:Addr}{fd:FuncData}{ps:List Str}{x:Str}{h:List R->Option (R×List R)}{t:M (List D)} (F:FnOk X.prog X.w X.K X.mg X.base CX0 kn f fd ps (spD X.K h)) (hr:Room kn X.A) (hg:Gl X x) (hm:X.mg x=some (.ref f)) (hk:keepIn X.K (.ref f)=true) (hb:Binds X.K fd ps []) (ha:AD X B (e::es) t)
  (aS:(x == ("__debug__":Str))=false:=by decide) (he:starEach (e::es) X.env=(false,eval e X.env)::starEach es X.env:=by rfl) (aA:(backTo pos (starEach es X.env)).any (·.1)=false:=by rfl) :
  EK X B (.Call (.Name x p) (e::es) [] pos) (fn1 (ckF h) t):=PE.imp (da' F hr hg hm hk hb .nil pass0 ha aS he aA) t_ck
end
end DL
namespace DL
open PySem PySem.W PySem.Spec PyProof.Rows L2
open PySem.SeqAt
open PySem.AutoSeq1 (wpAny_loadPart')
open PySem.MeetsSeq PySem.MeetsSeq2 PySem.MeetsSeq3
end DL
namespace DL
open PySem PySem.W PySem.Spec PyProof.Rows L2
end DL
namespace DL
open PySem PySem.W PySem.Spec PyProof.Rows L2
open PySem.SeqAt
open PySem.AutoSeq1 (wpAny_loadPart')
open PySem.MeetsSeq PySem.MeetsSeq2 PySem.MeetsSeq3
noncomputable def isStar:Expr->Bool
 | .Starred ..=>true
 | _=>false
theorem pZ' {e:Expr}{aB:List Expr}{env:Env} (h:isStar e=false):starEach (e::aB) env=(false,eval e env)::starEach aB env:=by
 cases e<;>first | rfl | (simp [isStar] at h)
theorem ab' {X:Cx}{B:BB}{e:Expr}{es:List Expr}{g:M D}{t:M (List D)} (ha:ED X B e g) (hr:AD X B es t) (h:isStar e=false):AD X B (e::es) (consA g t):=nW' ha hr (pZ' h)
end DL
namespace DL
open PySem PySem.Spec PyProof.Rows L2
section
variable {X:Cx}{B:BB}
theorem fy' {e1 e2 e3 e4:Expr}{es:List Expr}{g1 g2 g3 g4:M D}{t:M (List D)} (h1:ED X B e1 g1) (h2:ED X B e2 g2) (h3:ED X B e3 g3) (h4:ED X B e4 g4) (hr:AD X B es t) (s1:isStar e1=false) (s2:isStar e2=false) (s3:isStar e3=false) (s4:isStar e4=false):AD X B (e1::e2::e3::e4::es) (consA g1 (consA g2 (consA g3 (consA g4 t)))) :=
 ab' h1 (ab' h2 (ab' h3 (ab' h4 hr s4) s3) s2) s1
end
inductive KCs:List Expr->M (List D)->Prop
 | nil:KCs [] nilA
 | int {i:Int} {a b es t}:KCs es t->KCs (.Constant (.int i) a b::es) (consA (ret (.int i)) t)
 | bl {i:Bool} {a b es t}:KCs es t->KCs (.Constant (.bool i) a b::es) (consA (ret (.bl i)) t)
 | non {a b es t}:KCs es t->KCs (.Constant .none a b::es) (consA (ret .non) t)
 | str {i:Str} {a b es t}:KCs es t->KCs (.Constant (.str i) a b::es) (consA (ret (.str i)) t)
 | tup {fs u x p es t}:KCs fs u->KCs es t->KCs (.Tuple fs x p::es) (consA (tupA u) t)
end DL
namespace DL
open PySem PySem.W PySem.Spec PyProof.Rows L2 PySem.SetTable
section
variable {X:Cx}{B:BB}{e:Expr}{pos az:Pos}{kr:Nat}
theorem cG':∀ {ns:List Int}{af:List Value},Vals (ns.map V.int) af->IntsAre af ns
 | [],af,h=>by cases h;exact .nil
 | n::ns,af,h=>by
  cases h with
  | cons h1 h2=>obtain ⟨t,rfl⟩:=h1;exact .cons _ _ (cG' h2)
noncomputable def intsD:List D->Option (List Int)
 | []=>some []
 | .int i::ds=>match intsD ds with
  | some ns=>some (i::ns)
  | none=>none
 | _=>none
theorem cV':∀ {ds:List D}{ns:List Int},intsD ds=some ns->ds=ns.map D.int
 | [],ns,h=>by cases h;rfl
 | d::ds,ns,h=>by
  cases d<;>try cases h
  rename_i i
  rw [intsD] at h
  cases e:intsD ds with
  | none=>rw [e] at h;cases h
  | some ms=>rw [e] at h;cases h;rw [map_cons,← cV' e]
theorem cW':∀ (ns:List Int),intsD (ns.map D.int)=some ns
 | []=>rfl
 | n::ns=>by rw [map_cons,intsD,cW' ns]
theorem dx' {K:PySem.W.Frag}{I:Hp}:∀ {ns:List Int}{zs:List V},IsA K I (ns.map D.int) zs->zs=ns.map V.int
 | [],zs,h=>h.nil_inv
 | n::ns,zs,h=>by
  obtain ⟨x,r,rfl,h1,h2⟩:=IsA.cons_inv h
  rw [dx' h2,al' h1];rfl
variable {a b c c':Expr}{ga gb gc gd:M D}
noncomputable def chn3 (F F' iG:D->D->Option D) (ga gb gc gd:M D):M D:=bnd ga λx=>bnd gb λy=>bnd (lft (F x y)) λz=>bnd (lft (asB z)) λk=>if k then (bnd gc λw=>bnd (lft (F' y w)) λz'=>bnd (lft (asB z')) λk'=>if k' then bnd gd λw'=>lft (iG w w') else ret (.bl false)) else ret (.bl false)
noncomputable def tChain3 (r r' eO:R2) (ta tb tc td:TE):TE:=λU H Q=>ta U H λx H1=>tb U H1 λy H2=>r x y H2 λz H3=>∃ k,z=.bl k ∧
 (if k then (tc U H3 λw H4=>r' y w H4 λz' H5=>∃ k',z'=.bl k'/\(if k' then (td U H5 λw' H6=>eO w w' H6 Q) else Q (.bl false) H5)) else Q (.bl false) H3)
theorem p0' {r r' eO:R2}{F F' iG:D->D->Option D}{K:PySem.W.Frag} (h:OpD K r F) (h':OpD K r' F') (rz:OpD K eO iG):∀ U H Q,tD K B (chn3 F F' iG ga gb gc gd) U H Q->tChain3 r r' eO (tD K B ga) (tD K B gb) (tD K B gc) (tD K B gd) U H Q:=λU H Q q=>by
 obtain ⟨G,I,Z,d,aj,r,e1,k⟩:=q
 obtain ⟨d1,ae,e2,e3⟩:=ac' e1
 obtain ⟨d2,ao,e4,e5⟩:=ac' e3
 obtain ⟨d3,aQ,e6,e7⟩:=ac' e5
 obtain ⟨e8,rfl⟩:=am' e6
 obtain ⟨k1,aY,e9,f1⟩:=ac' e7
 obtain ⟨f2,rfl⟩:=am' e9
 have:=ed' f2
 subst this
 refine ⟨G,I,Z,d1,ae,r,e2,λv H1 I1 r1 g1 h1=>⟨G,I1,ae,d2,aY,r1,e4,λw H2 I2 r2 g2 h2=>h _ _ _ e8 B G I2 H2 U aY v w _ r2 (h1.mono g2.up) h2 λu H3 I3 r3 g3 h3=>⟨k1,a3' h3,?_⟩⟩⟩
 cases k1 with
 | false=>cases f1;exact iteF (k _ _ _ r3 (g1.trans (g2.trans g3)) (Is.bl false))
 | true =>
  obtain ⟨d4,fL,f3,f4⟩:=ac' f1
  obtain ⟨d5,fM,f5,f6⟩:=ac' f4
  obtain ⟨f7,rfl⟩:=am' f5
  obtain ⟨k2,vw,f8,f9⟩:=ac' f6
  obtain ⟨i1,rfl⟩:=am' f8
  have:=ed' i1
  subst this
  refine iteT ⟨G,I3,aY,d4,_,r3,f3,λz H4 I4 r4 g4 h4=>h' _ _ _ f7 B G I4 H4 U _ w z _ r4 (h2.mono (g3.trans g4).up) h4 λu' H5 I5 r5 g5 h5=>⟨k2,a3' h5,?_⟩⟩
  have gg:=g1.trans (g2.trans (g3.trans (g4.trans g5)))
  cases k2 with
  | false=>cases f9;exact iteF (k _ _ _ r5 gg (Is.bl false))
  | true =>
   obtain ⟨d6,vx,i2,i3⟩:=ac' f9
   obtain ⟨i4,rfl⟩:=am' i3
   exact iteT ⟨G,I5,_,d6,_,r5,i2,λz' H6 I6 r6 g6 h6=>rz _ _ _ i4 B G I6 H6 U _ z z' Q r6 (h4.mono (g5.trans g6).up) h6 (k.after (gg.trans g6))⟩
end
end DL
namespace TS
open PySem PyProof.Rows
noncomputable def gallop':Bool->Keyed->Array Keyed->Nat->Nat->Nat->StateT SortSt Sem (Option Nat):=sortPriv% PySem.Builtin.gallop
noncomputable def mergeLo':Array Keyed->Array Keyed->StateT SortSt Sem (Array Keyed):=sortPriv% PySem.Builtin.mergeLo
noncomputable def mergeHi':Array Keyed->Array Keyed->StateT SortSt Sem (Array Keyed):=sortPriv% PySem.Builtin.mergeHi
noncomputable abbrev setGal (st:SortSt) (g:Nat):SortSt:=SortSt.mk' (kindOf st) (arrOf st) (pendingOf st) g (failedOf st)
abbrev G3:=Option (Option Nat)×Nat×Nat
noncomputable def past (l:Bool) (key:Keyed) (xs:Array Keyed) (b i:Nat):StateT SortSt Sem (Option Bool):=do
 let p ← elem' xs (b+i)
 if l then lt' p key else do
  let r ← lt' key p
  pure (r.map (!·))
noncomputable def goR (l:Bool) (key:Keyed) (xs:Array Keyed) (b n h:Nat) (_:Nat) (c:G3):StateT SortSt Sem (ForInStep G3) :=
 if c.2.2>=n - h then pure (.done (none,c.2.1,c.2.2)) else do
  match ← past l key xs b (h+c.2.2) with
  | some q=>if (!q)=true then pure (.done (none,c.2.1,c.2.2)) else pure (.yield (none,c.2.2,2*c.2.2+1))
  | _=>pure (.done (some none,c.2.1,c.2.2))
noncomputable def goL (l:Bool) (key:Keyed) (xs:Array Keyed) (b h:Nat) (_:Nat) (c:G3):StateT SortSt Sem (ForInStep G3) :=
 if c.2.2>=h+1 then pure (.done (none,c.2.1,c.2.2)) else do
  match ← past l key xs b (h - c.2.2) with
  | some q=>if q=true then pure (.done (none,c.2.1,c.2.2)) else pure (.yield (none,c.2.2,2*c.2.2+1))
  | _=>pure (.done (some none,c.2.1,c.2.2))
noncomputable def goM (l:Bool) (key:Keyed) (xs:Array Keyed) (b:Nat) (_:Nat) (c:G3):StateT SortSt Sem (ForInStep G3) :=
 if c.2.1>=c.2.2 then pure (.done (none,c.2.1,c.2.2)) else do
  match ← past l key xs b (c.2.1+(c.2.2 - c.2.1) / 2) with
  | some q=>if q=true then pure (.yield (none,c.2.1+(c.2.2 - c.2.1) / 2+1,c.2.2)) else pure (.yield (none,c.2.1,c.2.1+(c.2.2 - c.2.1) / 2))
  | _=>pure (.done (some none,c.2.1,c.2.2))
noncomputable def goF (l:Bool) (key:Keyed) (xs:Array Keyed) (b n u v:Nat):StateT SortSt Sem (Option Nat):=do
 let c ← forIn [0:n] ((none,u,v):G3) (goM l key xs b)
 match c.1 with
 | some r=>pure r
 | none=>pure (some c.2.2)
theorem k9' (l:Bool) (key:Keyed) (xs:Array Keyed) (b n h:Nat):gallop' l key xs b n h=(do
 match ← past l key xs b h with
 | some q =>
  if q then do
   let c ← forIn [0:n] ((none,0,1):G3) (goR l key xs b n h)
   match c.1 with
   | some r=>pure r
   | none=>goF l key xs b n (h+c.2.1+1) (h+min c.2.2 (n - h))
  else do
   let c ← forIn [0:n] ((none,0,1):G3) (goL l key xs b h)
   match c.1 with
   | some r=>pure r
   | none=>goF l key xs b n (h+1 - min c.2.2 (h+1)) (h - c.2.1)
 | _=>pure none):=by kernel_rfl
def IsI (x:Keyed):Prop:=∃ n t,x.1=.int n t
noncomputable def kN (x:Keyed):Int:=numOf x.1
section
variable {prog:Program}{w:World}{A:Around}{E:Value->Shared->Prop}{s:Shared}{st:SortSt}
theorem fz' {x y:Keyed}{Q:Option Bool->SortSt->Prop} (hk:kindOf st=oneType') (hx:IsI x) (hy:IsI y) (h:Q (some (decide (kN x < kN y))) st):wpS (model prog w) A E s (lt' x y) Q st:=by
 obtain ⟨a,t,ha⟩:=hx
 obtain ⟨b,u,hb⟩:=hy
 rw [lt'_eq]
 refine wpS_bind (wpS_get ?_)
 rw [hk,keyLt'_oneType]
 unfold kN at h
 rw [ha,hb] at h ⊢
 exact wpS_bind (wpS_lift (wpAny_attempt (oneLt_int ⟨rfl,wpS_pure h⟩)))
theorem ay' {aO:Array Keyed}{i:Nat}{x:Keyed}{Q:Keyed->SortSt->Prop} (h:aO[i]?=some x) (q:Q x st):wpS (model prog w) A E s (elem' aO i) Q st:=by
 rw [elem'_eq,h]
 exact wpS_pure q
def AllI (xs:Array Keyed):Prop:=∀ (i:Nat) (x:Keyed),xs[i]?=some x->IsI x
theorem fA' {xs:Array Keyed}{i:Nat}{x:Keyed} (h:xs[i]?=some x):K xs i=kN x:=by unfold K kN;rw [h]
theorem az' {xs:Array Keyed}{i:Nat} (h:i < xs.size):∃ x,xs[i]?=some x/\K xs i=kN x:=⟨xs[i],getElem?_pos xs i h,fA' (getElem?_pos xs i h)⟩
noncomputable def Bey (left:Bool) (key:Keyed) (aO:Array Keyed) (base i:Nat):Bool:=if left then decide (K aO (base+i) < kN key) else !decide (kN key < K aO (base+i))
theorem p1' {left:Bool}{key:Keyed}{aO:Array Keyed}{base i:Nat}{Q:Option Bool->SortSt->Prop} (hk:kindOf st=oneType') (ha:AllI aO) (hx:IsI key) (hi:base+i < aO.size) (h:Q (some (Bey left key aO base i)) st):wpS (model prog w) A E s (past left key aO base i) Q st:=by
 obtain ⟨x,e,ek⟩:=az' hi
 unfold past
 refine wpS_bind (ay' e ?_)
 unfold Bey at h
 rw [ek] at h
 cases left with
 | true=>exact fz' hk (ha _ _ e) hx h
 | false=>exact wpS_bind (fz' hk hx (ha _ _ e) (wpS_pure h))
section
variable {left:Bool}{key:Keyed}{aO:Array Keyed}{base n:Nat}{P:Nat->Bool} (bo:∀ {i:Nat}{Q:Option Bool->SortSt->Prop},i < n->Q (some (P i)) st->wpS (model prog w) A E s (past left key aO base i) Q st) (mono:∀ i j,i<=j->j < n->P j=true->P i=true)
include bo mono
theorem la' {lo hi:Nat}{Q:Option Nat->SortSt->Prop} (h1:lo<=hi) (h2:hi<=n) (h3:∀ i,i < lo->P i=true) (h4:∀ i,hi<=i->i < n->P i=false) (h:∀ k,k<=n->(∀ i,i < k->P i=true)->(∀ i,k<=i->i < n->P i=false)->Q (some k) st):wpS (model prog w) A E s (goF left key aO base n lo hi) Q st:=by
 unfold goF
 refine wpS_bind (wpS_mono (wpS_forRange (I:=λx c ag=>ag=st/\∃ lo hi,c=(none,lo,hi)/\lo<=hi/\hi<=n/\hi - lo<=n - x/\(∀ i,i < lo->P i=true)/\∀ i,hi<=i->i < n->P i=false)
  (Q:=λc ag=>ag=st/\∃ lo hi,c=(none,lo,hi)/\hi<=n/\(∀ i,i < hi->P i=true)/\∀ i,hi<=i->i < n->P i=false) ?_ ?_ ⟨rfl,lo,hi,rfl,h1,h2,by omega,h3,h4⟩) ?_)
 ·rintro x c ag - hx ⟨rfl,lo,hi,rfl,h1,h2,h5,h3,h4⟩
  unfold goM
  dsimp only
  by_cases ge:lo>=hi
  ·rw [if_pos ge]
   have:lo=hi:=by omega
   subst this
   exact wpS_pure ⟨rfl,lo,lo,rfl,h2,h3,h4⟩
  ·rw [if_neg ge]
   refine wpS_bind (bo (by omega) ?_)
   dsimp only
   cases e:P (lo+(hi - lo) / 2) with
   | true =>
    rw [if_pos rfl]
    exact wpS_pure ⟨rfl,_,_,rfl,by omega,h2,by omega,λi bP=>mono i _ (by omega) (by omega) e,h4⟩
   | false =>
    rw [if_neg Bool.false_ne_true]
    refine wpS_pure ⟨rfl,_,_,rfl,by omega,by omega,by omega,h3,λi h6 h7=>?_⟩
    cases e2:P i with
    | false=>rfl
    | true=>rw [mono _ i h6 h7 e2] at e;cases e
 ·rintro c ag ⟨rfl,lo,hi,rfl,h1,h2,h5,h3,h4⟩
  have:lo=hi:=by omega
  subst this
  exact ⟨rfl,lo,lo,rfl,h2,h3,h4⟩
 ·rintro c ag ⟨rfl,lo,hi,rfl,h2,h3,h4⟩
  exact wpS_pure (h hi h2 h3 h4)
end
theorem bJ' {left:Bool}{key:Keyed}{aO:Array Keyed}{base n aR:Nat}{Q:Option Nat->SortSt->Prop} (hk:kindOf st=oneType') (ha:AllI aO) (hx:IsI key) (hn:base+n<=aO.size) (hh:aR < n)
  (mono:∀ i j,i<=j->j < n->Bey left key aO base j=true->Bey left key aO base i=true)
  (h:∀ k,k<=n->(∀ i,i < k->Bey left key aO base i=true)->(∀ i,k<=i->i < n->Bey left key aO base i=false)->Q (some k) st):wpS (model prog w) A E s (gallop' left key aO base n aR) Q st:=by
 obtain ⟨P,hP⟩:∃ P,P=Bey left key aO base:=⟨_,rfl⟩
 have bo:∀ {i:Nat}{Q:Option Bool->SortSt->Prop},i < n->Q (some (P i)) st->wpS (model prog w) A E s (past left key aO base i) Q st:=λ{i Q} hi q=>p1' hk ha hx (by omega) (by rw [← hP];exact q)
 rw [← hP] at mono h
 clear hP hn
 rw [k9']
 refine wpS_bind (bo hh ?_)
 dsimp only
 cases eh:P aR with
 | true =>
  rw [if_pos rfl]
  refine wpS_bind (wpS_mono (wpS_forRange (I:=λx c ag=>ag=st/\∃ last aU,c=(none,last,aU)/\last < aU/\x < aU/\last < n - aR/\P (aR+last)=true)
   (Q:=λc ag=>ag=st/\∃ last aU,c=(none,last,aU)/\last < aU/\last < n - aR/\P (aR+last)=true/\(aU>=n - aR\/(aU < n - aR/\P (aR+aU)=false))) ?_ ?_ ⟨rfl,0,1,rfl,by omega,by omega,by omega,eh⟩) ?_)
  ·rintro x c ag - hx ⟨rfl,last,aU,rfl,h1,h2,h3,h4⟩
   unfold goR
   dsimp only
   by_cases ge:aU>=n - aR
   ·rw [if_pos ge]
    exact wpS_pure ⟨rfl,_,_,rfl,h1,h3,h4,.inl ge⟩
   ·rw [if_neg ge]
    refine wpS_bind (bo (by omega) ?_)
    dsimp only
    cases e:P (aR+aU) with
    | true =>
     rw [if_neg (by decide)]
     exact wpS_pure ⟨rfl,_,_,rfl,by omega,by omega,by omega,e⟩
    | false =>
     rw [if_pos (by decide)]
     exact wpS_pure ⟨rfl,_,_,rfl,h1,h3,h4,.inr ⟨by omega,e⟩⟩
  ·rintro c ag ⟨rfl,last,aU,rfl,h1,h2,h3,h4⟩
   exact ⟨rfl,last,aU,rfl,h1,h3,h4,.inl (by omega)⟩
  ·rintro c ag ⟨rfl,last,aU,rfl,h1,h3,h4,h5⟩
   dsimp only
   refine la' bo mono (by omega) (by omega) (λi hi=>mono i _ (by omega) (by omega) h4) (λi h6 h7=>?_) h
   rcases h5 with h5 | ⟨h5,h8⟩
   ·omega
   ·cases e2:P i with
    | false=>rfl
    | true=>rw [mono _ i (by omega) h7 e2] at h8;cases h8
 | false =>
  rw [if_neg Bool.false_ne_true]
  refine wpS_bind (wpS_mono (wpS_forRange (I:=λx c ag=>ag=st/\∃ last aU,c=(none,last,aU)/\last < aU/\x < aU/\last < aR+1/\P (aR - last)=false)
   (Q:=λc ag=>ag=st/\∃ last aU,c=(none,last,aU)/\last < aU/\last < aR+1/\P (aR - last)=false/\(aU>=aR+1\/(aU < aR+1/\P (aR - aU)=true))) ?_ ?_ ⟨rfl,0,1,rfl,by omega,by omega,by omega,eh⟩) ?_)
  ·rintro x c ag - hx ⟨rfl,last,aU,rfl,h1,h2,h3,h4⟩
   unfold goL
   dsimp only
   by_cases ge:aU>=aR+1
   ·rw [if_pos ge]
    exact wpS_pure ⟨rfl,_,_,rfl,h1,h3,h4,.inl ge⟩
   ·rw [if_neg ge]
    refine wpS_bind (bo (by omega) ?_)
    dsimp only
    cases e:P (aR - aU) with
    | true =>
     rw [if_pos rfl]
     exact wpS_pure ⟨rfl,_,_,rfl,h1,h3,h4,.inr ⟨by omega,e⟩⟩
    | false =>
     rw [if_neg Bool.false_ne_true]
     exact wpS_pure ⟨rfl,_,_,rfl,by omega,by omega,by omega,e⟩
  ·rintro c ag ⟨rfl,last,aU,rfl,h1,h2,h3,h4⟩
   exact ⟨rfl,last,aU,rfl,h1,h3,h4,.inl (by omega)⟩
  ·rintro c ag ⟨rfl,last,aU,rfl,h1,h3,h4,h5⟩
   dsimp only
   refine la' bo mono (by omega) (by omega) (λi hi=>?_) (λi h6 h7=>?_) h
   ·rcases h5 with h5 | ⟨h5,h8⟩
    ·omega
    ·exact mono i _ (by omega) (by omega) h8
   ·cases e2:P i with
    | false=>rfl
    | true=>rw [mono _ i (by omega) h7 e2] at h4;cases h4
end
def setG (g:Nat):StateT SortSt Sem Unit:=modify λst=>setGal st g
abbrev C1:=Option (Array Keyed)×Array Keyed×Nat×Nat×Nat×Nat
abbrev C2:=Option (Array Keyed)×Array Keyed×Nat×Nat×Nat×Nat×Nat
abbrev C0:=Option (Array Keyed)×Array Keyed×Nat×Nat×Nat
noncomputable def dnA (a b ak:Array Keyed) (ia ib:Nat):Array Keyed:=ak++a.extract ia a.size++b.extract ib b.size
noncomputable def lsA (a b ak:Array Keyed) (ia ib:Nat):Array Keyed:=ak++b.extract ib b.size++a.extract ia a.size
noncomputable def one1 (a b:Array Keyed) (mg:Nat) (_:Nat) (c:C1):StateT SortSt Sem (ForInStep C1):=do
 let y ← elem' b c.2.2.2.1
 let x ← elem' a c.2.2.1
 match ← lt' y x with
 | some bWins =>
  if bWins then do
   let y ← elem' b c.2.2.2.1
   if (c.2.2.2.1+1 == b.size)=true then pure (.done (some (dnA a b (c.2.1.push y) c.2.2.1 (c.2.2.2.1+1)),c.2.1.push y,c.2.2.1,c.2.2.2.1+1,0,c.2.2.2.2.2+1))
   else if c.2.2.2.2.2+1>=mg then pure (.done (none,c.2.1.push y,c.2.2.1,c.2.2.2.1+1,0,c.2.2.2.2.2+1))
   else pure (.yield (none,c.2.1.push y,c.2.2.1,c.2.2.2.1+1,0,c.2.2.2.2.2+1))
  else do
   let x ← elem' a c.2.2.1
   if (c.2.2.1+1+1 == a.size)=true then pure (.done (some (lsA a b (c.2.1.push x) (c.2.2.1+1) c.2.2.2.1),c.2.1.push x,c.2.2.1+1,c.2.2.2.1,c.2.2.2.2.1+1,0))
   else if c.2.2.2.2.1+1>=mg then pure (.done (none,c.2.1.push x,c.2.2.1+1,c.2.2.2.1,c.2.2.2.2.1+1,0))
   else pure (.yield (none,c.2.1.push x,c.2.2.1+1,c.2.2.2.1,c.2.2.2.2.1+1,0))
 | _=>pure (.done (some (dnA a b c.2.1 c.2.2.1 c.2.2.2.1),c.2.1,c.2.2.1,c.2.2.2.1,c.2.2.2.2.1,c.2.2.2.2.2))
noncomputable def gT2 (a b ak:Array Keyed) (ia ib mg ac k:Nat):StateT SortSt Sem (ForInStep C2):=do
 let x ← elem' a ia
 if (ia+1+1 == a.size)=true then pure (.done (some (lsA a b (ak.push x) (ia+1) ib),ak.push x,ia+1,ib,mg,ac,k))
 else if (decide (ac < 7)&&decide (k < 7))=true then pure (.done (none,ak.push x,ia+1,ib,mg,ac,k))
 else pure (.yield (none,ak.push x,ia+1,ib,mg,ac,k))
noncomputable def gT1 (a b ak:Array Keyed) (ia ib mg ac bc:Nat):StateT SortSt Sem (ForInStep C2):=do
 let y ← elem' b ib
 if (ib+1 == b.size)=true then pure (.done (some (dnA a b (ak.push y) ia (ib+1)),ak.push y,ia,ib+1,mg,ac,bc))
 else do
  let x ← elem' a ia
  match ← gallop' true x b (ib+1) (b.size - (ib+1)) 0 with
  | some k =>
   if k > 0 then
    if (ib+1+k == b.size)=true then pure (.done (some (dnA a b (ak.push y++b.extract (ib+1) (ib+1+k)) ia (ib+1+k)),ak.push y++b.extract (ib+1) (ib+1+k),ia,ib+1+k,mg,ac,k))
    else gT2 a b (ak.push y++b.extract (ib+1) (ib+1+k)) ia (ib+1+k) mg ac k
   else gT2 a b (ak.push y) ia (ib+1) mg ac k
  | _=>pure (.done (some (dnA a b (ak.push y) ia (ib+1)),ak.push y,ia,ib+1,mg,ac,bc))
noncomputable def gB (a b ak:Array Keyed) (ia ib mg ac bc:Nat):StateT SortSt Sem (ForInStep C2):=do
 setG mg
 let y ← elem' b ib
 match ← gallop' false y a ia (a.size - ia) 0 with
 | some k =>
  if k > 0 then
   if (ia+k+1 == a.size)=true then pure (.done (some (lsA a b (ak++a.extract ia (ia+k)) (ia+k) ib),ak++a.extract ia (ia+k),ia+k,ib,mg,k,bc))
   else if (ia+k == a.size)=true then pure (.done (some (dnA a b (ak++a.extract ia (ia+k)) (ia+k) ib),ak++a.extract ia (ia+k),ia+k,ib,mg,k,bc))
   else gT1 a b (ak++a.extract ia (ia+k)) (ia+k) ib mg k bc
  else gT1 a b ak ia ib mg k bc
 | _=>pure (.done (some (dnA a b ak ia ib),ak,ia,ib,mg,ac,bc))
noncomputable def two1 (a b:Array Keyed) (_:Nat) (c:C2):StateT SortSt Sem (ForInStep C2) :=
 if c.2.2.2.2.1 > 1 then gB a b c.2.1 c.2.2.1 c.2.2.2.1 (c.2.2.2.2.1 - 1) c.2.2.2.2.2.1 c.2.2.2.2.2.2
 else gB a b c.2.1 c.2.2.1 c.2.2.2.1 c.2.2.2.2.1 c.2.2.2.2.2.1 c.2.2.2.2.2.2
noncomputable def out1 (a b:Array Keyed) (_:Nat) (c:C0):StateT SortSt Sem (ForInStep C0):=do
 let s1 ← forIn [0:a.size+b.size] ((none,c.2.1,c.2.2.1,c.2.2.2.1,0,0):C1) (one1 a b c.2.2.2.2)
 match s1.1 with
 | some r=>pure (.done (some r,s1.2.1,s1.2.2.1,s1.2.2.2.1,c.2.2.2.2))
 | none=>do
  rule "list.sort.gallop"
  let s2 ← forIn [0:a.size+b.size] ((none,s1.2.1,s1.2.2.1,s1.2.2.2.1,c.2.2.2.2+1,s1.2.2.2.2.1,s1.2.2.2.2.2):C2) (two1 a b)
  match s2.1 with
  | some r=>pure (.done (some r,s2.2.1,s2.2.2.1,s2.2.2.2.1,s2.2.2.2.2.1))
  | none=>do
   setG (s2.2.2.2.2.1+1)
   pure (.yield (none,s2.2.1,s2.2.2.1,s2.2.2.2.1,s2.2.2.2.2.1+1))
theorem jM' (a b:Array Keyed):mergeLo' a b=(do
 rule "list.sort.merge-lo"
 let y ← elem' b 0
 if (1 == b.size)=true then pure (dnA a b #[y] 0 1)
 else if (0+1 == a.size)=true then pure (lsA a b #[y] 0 1)
 else do
  let st ← get
  let s ← forIn [0:a.size+b.size] ((none,#[y],0,1,gallopOf st):C0) (out1 a b)
  match s.1 with
  | some r=>pure r
  | none=>unsupported "internal:list.sort.merge-bound"):=by kernel_rfl
def SL (l:List Keyed):Prop:=l.Pairwise λx y=>kN x<=kN y
def Le (l m:List Keyed):Prop:=∀ x∈l,∀ y∈m,kN x<=kN y
theorem SL.app {l m:List Keyed} (h:SL l) (h':SL m) (c:Le l m):SL (l++m):=pairwise_append.mpr ⟨h,h',c⟩
theorem SL.take {l:List Keyed} (h:SL l) (k:Nat):SL (l.take k):=h.sublist (take_sublist _ _)
theorem SL.drop {l:List Keyed} (h:SL l) (k:Nat):SL (l.drop k):=h.sublist (List.drop_sublist _ _)
theorem SL.cut {l:List Keyed} (h:SL l) (k:Nat):Le (l.take k) (l.drop k):=λx hx y hy=>by
 have:=h
 unfold SL at this
 rw [← take_append_drop k l] at this
 exact (pairwise_append.mp this).2.2 x hx y hy
structure MI (la lb o:List Keyed) (ia ib:Nat):Prop where
 perm:o.Perm (la.take ia++lb.take ib)
 srt:SL o
 toA:Le o (la.drop ia)
 toB:Le o (lb.drop ib)
theorem MI.a {la lb o:List Keyed}{ia ib:Nat} (h:MI la lb o ia ib) (sa:SL la) (k:Nat) (c:Le ((la.drop ia).take k) (lb.drop ib)):MI la lb (o++(la.drop ia).take k) (ia+k) ib:=by
 have tk:la.take (ia+k)=la.take ia++(la.drop ia).take k:=List.take_add
 refine ⟨?_,h.srt.app ((sa.drop ia).take k) λx hx y hy=>h.toA x hx y (mem_of_mem_take hy),λx hx y hy=>?_,λx hx y hy=>?_⟩
 ·rw [tk]
  have:=h.perm.append_right ((la.drop ia).take k)
  refine this.trans ?_
  rw [append_assoc,append_assoc]
  exact append_left _ perm_append_comm
 ·rw [← drop_drop] at hy
  rcases mem_append.mp hx with hx | hx
  ·exact h.toA x hx y (mem_of_mem_drop hy)
  ·exact (sa.drop ia).cut k x hx y hy
 ·rcases mem_append.mp hx with hx | hx
  ·exact h.toB x hx y hy
  ·exact c x hx y hy
theorem MI.swap {la lb o:List Keyed}{ia ib:Nat} (h:MI la lb o ia ib):MI lb la o ib ia:=⟨h.perm.trans perm_append_comm,h.srt,h.toB,h.toA⟩
theorem MI.b {la lb o:List Keyed}{ia ib:Nat} (h:MI la lb o ia ib) (sb:SL lb) (k:Nat) (c:Le ((lb.drop ib).take k) (la.drop ia)):MI la lb (o++(lb.drop ib).take k) ia (ib+k):=(h.swap.a sb k c).swap
theorem MI.done {la lb o:List Keyed}{ia ib:Nat} (h:MI la lb o ia ib) (sa:SL la) (sb:SL lb) (c:Le (la.drop ia) (lb.drop ib)):SL (o++la.drop ia++lb.drop ib)/\(o++la.drop ia++lb.drop ib).Perm (la++lb):=by
 refine ⟨(h.srt.app (sa.drop ia) h.toA).app (sb.drop ib) λx hx y hy=>?_,?_⟩
 ·rcases mem_append.mp hx with hx | hx
  ·exact h.toB x hx y hy
  ·exact c x hx y hy
 ·have e:la++lb=(la.take ia++la.drop ia)++(lb.take ib++lb.drop ib):=by rw [take_append_drop,take_append_drop]
  rw [e]
  refine ((h.perm.append_right _).append_right _).trans ?_
  simp only [append_assoc]
  refine append_left _ ?_
  rw [← append_assoc,← append_assoc]
  exact append_right _ perm_append_comm
theorem em' (a:Array Keyed) (i:Nat):(a.extract i a.size).toList=a.toList.drop i:=by
 rw [Array.toList_extract,List.extract_eq_take_drop,take_of_length_le (by simp)]
theorem i5' (a:Array Keyed) (i k:Nat):(a.extract i (i+k)).toList=(a.toList.drop i).take k:=by
 rw [Array.toList_extract,List.extract_eq_take_drop]
 congr 1
 omega
def Fin (a b r:Array Keyed):Prop:=SL r.toList/\r.toList.Perm (a.toList++b.toList)
structure Two (a b:Array Keyed):Prop where
 ai:AllI a
 bi:AllI b
 sa:SL a.toList
 sb:SL b.toList
 last:Le b.toList (a.toList.drop (a.size - 1))
theorem Two.fin1 {a b o:Array Keyed}{ia ib:Nat} (T:Two a b) (mi:MI a.toList b.toList o.toList ia ib) (c:b.size<=ib\/a.size<=ia):Fin a b (dnA a b o ia ib):=by
 have:=mi.done T.sa T.sb λx hx y hy=>by
  rcases c with c | c
  ·rw [drop_eq_nil_of_le (by simpa using c)] at hy;cases hy
  ·rw [drop_eq_nil_of_le (by simpa using c)] at hx;cases hx
 unfold Fin dnA
 rw [toList_append,toList_append,em',em']
 exact this
theorem Two.fin2 {a b o:Array Keyed}{ia ib:Nat} (T:Two a b) (mi:MI a.toList b.toList o.toList ia ib) (c:ia+1=a.size):Fin a b (lsA a b o ia ib):=by
 have:=mi.swap.done T.sb T.sa λx hx y hy=>T.last x (mem_of_mem_drop hx) y (by rw [show a.size - 1=ia by omega];exact hy)
 unfold Fin lsA
 rw [toList_append,toList_append,em',em']
 exact ⟨this.1,this.2.trans perm_append_comm⟩
theorem aN' {a:Array Keyed}{i:Nat}{x:Keyed} (h:a[i]?=some x):a.toList.drop i=x::a.toList.drop (i+1)/\(a.toList.drop i).take 1=[x]:=by
 have hl:i < a.toList.length:=by
  rcases lt_or_ge i a.toList.length with q | q
  ·exact q
  ·rw [← getElem?_toList,List.getElem?_eq_none q] at h;cases h
 have e:=drop_eq_getElem_cons hl
 have:a.toList[i]=x:=by
  rw [← getElem?_toList,getElem?_eq_getElem hl] at h
  exact Option.some.inj h
 rw [this] at e
 exact ⟨e,by rw [e];rfl⟩
theorem dh' {a:Array Keyed}{i:Nat}{x:Keyed} (s:SL a.toList) (h:a[i]?=some x):∀ y∈a.toList.drop i,kN x<=kN y:=by
 have:=s.drop i
 rw [(aN' h).1] at this ⊢
 intro y hy
 rcases mem_cons.mp hy with rfl | hy
 ·exact Int.le_refl _
 ·exact (pairwise_cons.mp this).1 y hy
theorem bQ' {a:Array Keyed} (s:SL a.toList){i j:Nat} (h:i<=j) (hj:j < a.size):K a i<=K a j:=by
 obtain ⟨x,ex,kx⟩:=az' (xs:=a) (i:=i) (by omega)
 obtain ⟨y,ey,ky⟩:=az' hj
 rw [kx,ky]
 refine dh' s ex y ?_
 rw [← getElem?_toList] at ey
 have:(a.toList.drop i)[j - i]?=some y:=by rw [getElem?_drop,show i+(j - i)=j by omega];exact ey
 exact mem_of_getElem? this
theorem dy' {a:Array Keyed}{i k:Nat}{x:Keyed} (h:x∈(a.toList.drop i).take k):∃ j,j < k/\i+j < a.size/\kN x=K a (i+j):=by
 obtain ⟨j,hj,e⟩:=mem_iff_getElem.mp h
 rw [length_take,length_drop,length_toList] at hj
 refine ⟨j,by omega,by omega,?_⟩
 have e2:a[i+j]?=some x:=by
  rw [← getElem?_toList,← e,List.getElem_take,getElem_drop]
  exact getElem?_eq_getElem _
 exact (fA' e2).symm
theorem hN' {a:Array Keyed}{i:Nat}{x:Keyed} (h:x∈a.toList.drop i):∃ j,i<=j/\j < a.size/\kN x=K a j:=by
 obtain ⟨j,hj,e⟩:=mem_iff_getElem.mp h
 rw [length_drop,length_toList] at hj
 refine ⟨i+j,by omega,by omega,?_⟩
 have e2:a[i+j]?=some x:=by
  rw [← getElem?_toList,← e,getElem_drop]
  exact getElem?_eq_getElem _
 exact (fA' e2).symm
section
variable {prog:Program}{w:World}{A:Around}{E:Value->Shared->Prop}{s:Shared}{st:SortSt}{a b ak:Array Keyed}{ia ib n0:Nat}
structure On (a b ak:Array Keyed) (ia ib n0:Nat):Prop where
 mi:MI a.toList b.toList ak.toList ia ib
 ha:ia+1 < a.size
 hb:ib < b.size
 hn:n0<=ia+ib
def P2 (a b:Array Keyed) (st:SortSt) (n0:Nat) (c:C2) (ag:SortSt):Prop:=(∃ g,ag=setGal st g)/\((∃ r,c.1=some r/\Fin a b r)\/(c.1=none/\On a b c.2.1 c.2.2.1 c.2.2.2.1 n0))
def R2 (a b:Array Keyed) (st:SortSt) (n0:Nat) (r:ForInStep C2) (ag:SortSt):Prop:=match r with
 | .done c=>P2 a b st n0 c ag
 | .yield c=>c.1=none/\P2 a b st n0 c ag
theorem lb' {mg ac k g:Nat} (T:Two a b) (o:On a b ak ia ib n0) (c:Le ((a.toList.drop ia).take 1) (b.toList.drop ib)):wpS (model prog w) A E s (gT2 a b ak ia ib mg ac k) (R2 a b st n0) (setGal st g):=by
 obtain ⟨mi,ha,hb,hn⟩:=o
 obtain ⟨x,ex,_⟩:=az' (xs:=a) (i:=ia) (by omega)
 have m1:=mi.a T.sa 1 c
 rw [(aN' ex).2,← toList_push] at m1
 unfold gT2
 refine wpS_bind (ay' ex ?_)
 by_cases e:ia+1+1=a.size
 ·rw [if_pos (by simpa using e)]
  exact wpS_pure ⟨⟨g,rfl⟩,.inl ⟨_,rfl,T.fin2 m1 e⟩⟩
 ·rw [if_neg (by simpa using e)]
  have on:On a b (ak.push x) (ia+1) ib n0:=⟨m1,by omega,hb,by omega⟩
  split
  ·exact wpS_pure ⟨⟨g,rfl⟩,.inr ⟨rfl,on⟩⟩
  ·exact wpS_pure ⟨rfl,⟨g,rfl⟩,.inr ⟨rfl,on⟩⟩
theorem lc' {mg ac bc g:Nat} (hk:kindOf st=oneType') (T:Two a b) (o:On a b ak ia ib n0) (c:Le ((b.toList.drop ib).take 1) (a.toList.drop ia)):wpS (model prog w) A E s (gT1 a b ak ia ib mg ac bc) (R2 a b st n0) (setGal st g):=by
 obtain ⟨mi,ha,hb,hn⟩:=o
 obtain ⟨y,ey,_⟩:=az' (xs:=b) (i:=ib) (by omega)
 obtain ⟨x,ex,kx⟩:=az' (xs:=a) (i:=ia) (by omega)
 have m1:=mi.b T.sb 1 c
 rw [(aN' ey).2,← toList_push] at m1
 unfold gT1
 refine wpS_bind (ay' ey ?_)
 by_cases e:ib+1=b.size
 ·rw [if_pos (by simpa using e)]
  exact wpS_pure ⟨⟨g,rfl⟩,.inl ⟨_,rfl,T.fin1 m1 (.inl (by omega))⟩⟩
 ·rw [if_neg (by simpa using e)]
  refine wpS_bind (ay' ex ?_)
  refine wpS_bind (bJ' (by exact hk) T.bi (T.ai _ _ ex) (by omega) (by omega) (λi j h1 h2 h3=>?_) λk dX bU cj=>?_)
  ·simp only [Bey,if_true,decide_eq_true_eq] at h3 ⊢
   have:=bQ' T.sb (i:=ib+1+i) (j:=ib+1+j) (by omega) (by omega)
   omega
  ·simp only [Bey,if_true,decide_eq_true_eq,decide_eq_false_iff_not] at bU cj
   dsimp only
   have lx:=dh' T.sa ex
   have after:∀ i0,ib+1+k<=i0->Le ((a.toList.drop ia).take 1) (b.toList.drop i0):=λi0 h0 z hz v hv=>by
    rw [(aN' ex).2,mem_singleton] at hz
    subst hz
    obtain ⟨j,j1,j2,j3⟩:=hN' hv
    have:=cj (j - (ib+1)) (by omega) (by omega)
    rw [show ib+1+(j - (ib+1))=j by omega] at this
    omega
   by_cases k0:k > 0
   ·rw [if_pos k0]
    have m2:=m1.b T.sb k λz hz v hv=>by
     obtain ⟨j,j1,j2,j3⟩:=dy' hz
     have:=bU j j1
     have:=lx v hv
     omega
    rw [← i5',← toList_append] at m2
    by_cases e2:ib+1+k=b.size
    ·rw [if_pos (by simpa using e2)]
     exact wpS_pure ⟨⟨g,rfl⟩,.inl ⟨_,rfl,T.fin1 m2 (.inl (by omega))⟩⟩
    ·rw [if_neg (by simpa using e2)]
     exact lb' T ⟨m2,ha,by omega,by omega⟩ (after _ (le_refl _))
   ·rw [if_neg k0]
    exact lb' T ⟨m1,ha,by omega,by omega⟩ (after _ (by omega))
theorem qH' {mg ac bc g:Nat} (hk:kindOf st=oneType') (T:Two a b) (o:On a b ak ia ib n0):wpS (model prog w) A E s (gB a b ak ia ib mg ac bc) (R2 a b st n0) (setGal st g):=by
 obtain ⟨mi,ha,hb,hn⟩:=o
 obtain ⟨y,ey,ky⟩:=az' (xs:=b) (i:=ib) (by omega)
 unfold gB setG
 refine wpS_bind (wpS_modify ?_)
 show wpS _ _ _ _ _ _ (setGal st mg)
 refine wpS_bind (ay' ey ?_)
 refine wpS_bind (bJ' (by exact hk) T.ai (T.bi _ _ ey) (by omega) (by omega) (λi j h1 h2 h3=>?_) λk dX bU cj=>?_)
 ·simp only [Bey,false_eq_true,if_false,not_eq_true',decide_eq_false_iff_not] at h3 ⊢
  have:=bQ' T.sa (i:=ia+i) (j:=ia+j) (by omega) (by omega)
  omega
 ·simp only [Bey,false_eq_true,if_false,not_eq_true',not_eq_false',decide_eq_true_eq,decide_eq_false_iff_not] at bU cj
  dsimp only
  have ly:=dh' T.sb ey
  have after:∀ i0,ia+k<=i0->Le ((b.toList.drop ib).take 1) (a.toList.drop i0):=λi0 h0 z hz v hv=>by
   rw [(aN' ey).2,mem_singleton] at hz
   subst hz
   obtain ⟨j,j1,j2,j3⟩:=hN' hv
   have:=cj (j - ia) (by omega) (by omega)
   rw [show ia+(j - ia)=j by omega] at this
   omega
  by_cases k0:k > 0
  ·rw [if_pos k0]
   have m2:=mi.a T.sa k λz hz v hv=>by
    obtain ⟨j,j1,j2,j3⟩:=dy' hz
    have:=bU j j1
    have:=ly v hv
    omega
   rw [← i5',← toList_append] at m2
   by_cases e1:ia+k+1=a.size
   ·rw [if_pos (by simpa using e1)]
    exact wpS_pure ⟨⟨mg,rfl⟩,.inl ⟨_,rfl,T.fin2 m2 e1⟩⟩
   ·rw [if_neg (by simpa using e1)]
    by_cases e2:ia+k=a.size
    ·rw [if_pos (by simpa using e2)]
     exact wpS_pure ⟨⟨mg,rfl⟩,.inl ⟨_,rfl,T.fin1 m2 (.inr (by omega))⟩⟩
    ·rw [if_neg (by simpa using e2)]
     exact lc' hk T ⟨m2,by omega,hb,by omega⟩ (after _ (le_refl _))
  ·rw [if_neg k0]
   exact lc' hk T ⟨mi,ha,hb,hn⟩ (after _ (by omega))
end
section
variable {prog:Program}{w:World}{A:Around}{E:Value->Shared->Prop}{s:Shared}{st:SortSt}{a b ak:Array Keyed}{ia ib n0:Nat}
def P1 (a b:Array Keyed) (st:SortSt) (n0:Nat) (c:C1) (ag:SortSt):Prop:=(∃ g,ag=setGal st g)/\((∃ r,c.1=some r/\Fin a b r)\/(c.1=none/\On a b c.2.1 c.2.2.1 c.2.2.2.1 n0))
theorem oo' {mg x ac bc g:Nat} (hk:kindOf st=oneType') (T:Two a b) (o:On a b ak ia ib n0):wpS (model prog w) A E s (one1 a b mg x (none,ak,ia,ib,ac,bc)) (λr ag=>match r with
  | .done c=>P1 a b st (n0+1) c ag
  | .yield c=>c.1=none/\P1 a b st (n0+1) c ag) (setGal st g):=by
 obtain ⟨mi,ha,hb,hn⟩:=o
 obtain ⟨y,ey,ky⟩:=az' (xs:=b) (i:=ib) (by omega)
 obtain ⟨x,ex,kx⟩:=az' (xs:=a) (i:=ia) (by omega)
 have lx:=dh' T.sa ex
 have ly:=dh' T.sb ey
 unfold one1
 dsimp only
 refine wpS_bind (ay' ey (wpS_bind (ay' ex (wpS_bind (fz' (by exact hk) (T.bi _ _ ey) (T.ai _ _ ex) ?_)))))
 dsimp only
 by_cases l:kN y < kN x
 ·rw [if_pos (by simpa using l)]
  have m1:=mi.b T.sb 1 λz hz v hv=>by
   rw [(aN' ey).2,mem_singleton] at hz
   subst hz
   have:=lx v hv
   omega
  rw [(aN' ey).2,← toList_push] at m1
  refine wpS_bind (ay' ey ?_)
  by_cases e:ib+1=b.size
  ·rw [if_pos (by simpa using e)]
   exact wpS_pure ⟨⟨g,rfl⟩,.inl ⟨_,rfl,T.fin1 m1 (.inl (by omega))⟩⟩
  ·rw [if_neg (by simpa using e)]
   have on:On a b (ak.push y) ia (ib+1) (n0+1):=⟨m1,ha,by omega,by omega⟩
   split
   ·exact wpS_pure ⟨⟨g,rfl⟩,.inr ⟨rfl,on⟩⟩
   ·exact wpS_pure ⟨rfl,⟨g,rfl⟩,.inr ⟨rfl,on⟩⟩
 ·rw [if_neg (by simpa using l)]
  have m1:=mi.a T.sa 1 λz hz v hv=>by
   rw [(aN' ex).2,mem_singleton] at hz
   subst hz
   have:=ly v hv
   omega
  rw [(aN' ex).2,← toList_push] at m1
  refine wpS_bind (ay' ex ?_)
  by_cases e:ia+1+1=a.size
  ·rw [if_pos (by simpa using e)]
   exact wpS_pure ⟨⟨g,rfl⟩,.inl ⟨_,rfl,T.fin2 m1 e⟩⟩
  ·rw [if_neg (by simpa using e)]
   have on:On a b (ak.push x) (ia+1) ib (n0+1):=⟨m1,by omega,hb,by omega⟩
   split
   ·exact wpS_pure ⟨⟨g,rfl⟩,.inr ⟨rfl,on⟩⟩
   ·exact wpS_pure ⟨rfl,⟨g,rfl⟩,.inr ⟨rfl,on⟩⟩
theorem On.less {m:Nat} (o:On a b ak ia ib n0) (h:m<=n0):On a b ak ia ib m:=⟨o.mi,o.ha,o.hb,by have:=o.hn;omega⟩
theorem oq' {x mg g:Nat} (hk:kindOf st=oneType') (T:Two a b) (o:On a b ak ia ib n0):wpS (model prog w) A E s (out1 a b x (none,ak,ia,ib,mg)) (λr ag=>match r with
  | .done c=>(∃ g,ag=setGal st g)/\∃ r,c.1=some r/\Fin a b r
  | .yield c=>c.1=none/\(∃ g,ag=setGal st g)/\On a b c.2.1 c.2.2.1 c.2.2.2.1 (n0+1)) (setGal st g):=by
 have ha:=o.ha
 have hb:=o.hb
 unfold out1
 dsimp only
 refine wpS_bind (wpS_mono (wpS_forRange (I:=λx c ag=>(∃ g,ag=setGal st g)/\c.1=none/\On a b c.2.1 c.2.2.1 c.2.2.2.1 (n0+x)) (Q:=P1 a b st (n0+1)) ?_ ?_ ⟨⟨g,rfl⟩,rfl,o⟩) ?_)
 ·rintro x ⟨r,o1,i1,j1,c1,d1⟩ ag - hx ⟨⟨g,rfl⟩,h1,h2⟩
  dsimp only at h1 h2
  subst h1
  refine wpS_mono (oo' hk T h2) λr ag q=>?_
  cases r with
  | done c =>
   refine ⟨q.1,?_⟩
   rcases q.2 with q | q
   ·exact .inl q
   ·exact .inr ⟨q.1,q.2.less (by omega)⟩
  | yield c =>
   obtain ⟨q0,q1,q2⟩:=q
   refine ⟨q1,q0,?_⟩
   rcases q2 with ⟨r,q2,_⟩ | ⟨_,q2⟩
   ·rw [q0] at q2;cases q2
   ·exact q2
 ·rintro ⟨r,o1,i1,j1,c1,d1⟩ ag ⟨h0,h1,h2⟩
  exact ⟨h0,.inr ⟨h1,h2.less (by omega)⟩⟩
 ·rintro ⟨r,o1,i1,j1,c1,d1⟩ ag ⟨⟨g,rfl⟩,h2⟩
  rcases h2 with ⟨r',e,h2⟩ | ⟨e,h2⟩
  ·dsimp only at e
   subst e
   exact wpS_pure ⟨⟨g,rfl⟩,r',rfl,h2⟩
  ·dsimp only at e h2
   subst e
   dsimp only
   refine wpS_bind (wpS_lift (wpAny_rule ⟨rfl,?_⟩))
   refine wpS_bind (wpS_mono (wpS_forRange (I:=λx c ag=>(∃ g,ag=setGal st g)/\c.1=none/\On a b c.2.1 c.2.2.1 c.2.2.2.1 (n0+1)) (Q:=P2 a b st (n0+1)) ?_ ?_ ⟨⟨g,rfl⟩,rfl,h2⟩) ?_)
   ·rintro x ⟨r,o2,i2,j2,m2,c2,d2⟩ ag - hx ⟨⟨g,rfl⟩,h1,h2⟩
    dsimp only at h1 h2
    subst h1
    unfold two1
    dsimp only
    split
    all_goals
     refine wpS_mono (qH' hk T h2) λr ag q=>?_
     cases r with
     | done c=>exact q
     | yield c =>
      obtain ⟨q0,q1,q2⟩:=q
      refine ⟨q1,q0,?_⟩
      rcases q2 with ⟨r,q2,_⟩ | ⟨_,q2⟩
      ·rw [q0] at q2;cases q2
      ·exact q2
   ·rintro ⟨r,o2,i2,j2,m2,c2,d2⟩ ag ⟨h0,h1,h2⟩
    exact ⟨h0,.inr ⟨h1,h2⟩⟩
   ·rintro ⟨r,o2,i2,j2,m2,c2,d2⟩ ag ⟨⟨g,rfl⟩,h2⟩
    rcases h2 with ⟨r',e,h2⟩ | ⟨e,h2⟩
    ·dsimp only at e
     subst e
     exact wpS_pure ⟨⟨g,rfl⟩,r',rfl,h2⟩
    ·dsimp only at e h2
     subst e
     dsimp only
     unfold setG
     exact wpS_bind (wpS_modify (wpS_pure ⟨rfl,⟨m2+1,rfl⟩,h2⟩))
theorem jN' {Q:Array Keyed->SortSt->Prop} (hk:kindOf st=oneType') (T:Two a b) (na:1<=a.size) (nb:1<=b.size) (first:Le (b.toList.take 1) a.toList) (h:∀ r g,Fin a b r->Q r (setGal st g)) :
  wpS (model prog w) A E s (mergeLo' a b) Q st:=by
 obtain ⟨y,ey,_⟩:=az' (xs:=b) (i:=0) (by omega)
 have m0:MI a.toList b.toList ([]:List Keyed) 0 0:=⟨by simp,List.Pairwise.nil,λx hx=>(by cases hx),λx hx=>(by cases hx)⟩
 have m1:=m0.b T.sb 1 (by simpa using first)
 rw [(aN' ey).2] at m1
 have m1:MI a.toList b.toList (#[y]:Array Keyed).toList 0 1:=m1
 rw [jM']
 refine wpS_bind (wpS_lift (wpAny_rule ⟨rfl,?_⟩))
 refine wpS_bind (ay' ey ?_)
 by_cases e1:1=b.size
 ·rw [if_pos (by simpa using e1)]
  exact wpS_pure (h _ (gallopOf st) (T.fin1 m1 (.inl (by omega))))
 ·rw [if_neg (by simpa using e1)]
  by_cases e2:0+1=a.size
  ·rw [if_pos (by simpa using e2)]
   exact wpS_pure (h _ (gallopOf st) (T.fin2 m1 e2))
  ·rw [if_neg (by simpa using e2)]
   have o1:On a b #[y] 0 1 1:=⟨m1,by omega,by omega,by omega⟩
   refine wpS_bind (wpS_get ?_)
   refine wpS_bind (wpS_mono (wpS_forRange (I:=λx c ag=>(∃ g,ag=setGal st g)/\c.1=none/\On a b c.2.1 c.2.2.1 c.2.2.2.1 (x+1)) (Q:=λc ag=>(∃ g,ag=setGal st g)/\∃ r,c.1=some r/\Fin a b r) ?_ ?_ ⟨⟨gallopOf st,rfl⟩,rfl,o1⟩) ?_)
   ·rintro x ⟨r,o1,i1,j1,m1⟩ ag - hx ⟨⟨g,rfl⟩,h1,h2⟩
    dsimp only at h1 h2
    subst h1
    refine wpS_mono (oq' hk T h2) λr ag q=>?_
    cases r with
    | done c=>exact q
    | yield c=>exact ⟨q.2.1,q.1,q.2.2⟩
   ·rintro ⟨r,o1,i1,j1,m1⟩ ag ⟨h0,h1,h2⟩
    have:=h2.ha
    have:=h2.hb
    have:=h2.hn
    dsimp only at *
    omega
   ·rintro ⟨r,o1,i1,j1,m1⟩ ag ⟨⟨g,rfl⟩,r',e,h2⟩
    dsimp only at e
    subst e
    exact wpS_pure (h r' g h2)
end
abbrev D1:=Option (Array Keyed)×Nat×Nat×Array Keyed×Nat×Nat
abbrev D2:=Option (Array Keyed)×Nat×Nat×Array Keyed×Nat×Nat×Nat
abbrev D0:=Option (Array Keyed)×Nat×Nat×Array Keyed×Nat
noncomputable def dnH (a b ak:Array Keyed) (na nb:Nat):Array Keyed:=a.extract 0 na++b.extract 0 nb++ak.reverse
noncomputable def fsB (a b ak:Array Keyed) (na nb:Nat):Array Keyed:=b.extract 0 nb++a.extract 0 na++ak.reverse
noncomputable def oneH (a b:Array Keyed) (mg:Nat) (_:Nat) (c:D1):StateT SortSt Sem (ForInStep D1):=do
 let y ← elem' b (c.2.2.1 - 1)
 let x ← elem' a (c.2.1 - 1)
 match ← lt' y x with
 | some aWins =>
  if aWins then do
   let x ← elem' a (c.2.1 - 1)
   if (c.2.1 - 1 == 0)=true then pure (.done (some (dnH a b (c.2.2.2.1.push x) (c.2.1 - 1) c.2.2.1),c.2.1 - 1,c.2.2.1,c.2.2.2.1.push x,c.2.2.2.2.1+1,0))
   else if c.2.2.2.2.1+1>=mg then pure (.done (none,c.2.1 - 1,c.2.2.1,c.2.2.2.1.push x,c.2.2.2.2.1+1,0))
   else pure (.yield (none,c.2.1 - 1,c.2.2.1,c.2.2.2.1.push x,c.2.2.2.2.1+1,0))
  else do
   let y ← elem' b (c.2.2.1 - 1)
   if (c.2.2.1 - 1 == 1)=true then pure (.done (some (fsB a b (c.2.2.2.1.push y) c.2.1 (c.2.2.1 - 1)),c.2.1,c.2.2.1 - 1,c.2.2.2.1.push y,0,c.2.2.2.2.2+1))
   else if c.2.2.2.2.2+1>=mg then pure (.done (none,c.2.1,c.2.2.1 - 1,c.2.2.2.1.push y,0,c.2.2.2.2.2+1))
   else pure (.yield (none,c.2.1,c.2.2.1 - 1,c.2.2.2.1.push y,0,c.2.2.2.2.2+1))
 | _=>pure (.done (some (dnH a b c.2.2.2.1 c.2.1 c.2.2.1),c.2.1,c.2.2.1,c.2.2.2.1,c.2.2.2.2.1,c.2.2.2.2.2))
noncomputable def hT2 (a b ak:Array Keyed) (na nb mg ac bc:Nat):StateT SortSt Sem (ForInStep D2):=do
 let x ← elem' a (na - 1)
 if (na - 1 == 0)=true then pure (.done (some (dnH a b (ak.push x) (na - 1) nb),na - 1,nb,ak.push x,mg,ac,bc))
 else if (decide (ac < 7)&&decide (bc < 7))=true then pure (.done (none,na - 1,nb,ak.push x,mg,ac,bc))
 else pure (.yield (none,na - 1,nb,ak.push x,mg,ac,bc))
noncomputable def hT1 (a b ak:Array Keyed) (na nb mg ac bc:Nat):StateT SortSt Sem (ForInStep D2):=do
 let y ← elem' b (nb - 1)
 if (nb - 1 == 1)=true then pure (.done (some (fsB a b (ak.push y) na (nb - 1)),na,nb - 1,ak.push y,mg,ac,bc))
 else do
  let x ← elem' a (na - 1)
  match ← gallop' true x b 0 (nb - 1) (nb - 1 - 1) with
  | some k =>
   if nb - 1 - k > 0 then
    if (k == 1)=true then pure (.done (some (fsB a b (ak.push y++(b.extract k (nb - 1)).reverse) na k),na,k,ak.push y++(b.extract k (nb - 1)).reverse,mg,ac,nb - 1 - k))
    else if (k == 0)=true then pure (.done (some (dnH a b (ak.push y++(b.extract k (nb - 1)).reverse) na k),na,k,ak.push y++(b.extract k (nb - 1)).reverse,mg,ac,nb - 1 - k))
    else hT2 a b (ak.push y++(b.extract k (nb - 1)).reverse) na k mg ac (nb - 1 - k)
   else hT2 a b (ak.push y) na (nb - 1) mg ac (nb - 1 - k)
  | _=>pure (.done (some (dnH a b (ak.push y) na (nb - 1)),na,nb - 1,ak.push y,mg,ac,bc))
noncomputable def hB (a b ak:Array Keyed) (na nb mg ac bc:Nat):StateT SortSt Sem (ForInStep D2):=do
 setG mg
 let y ← elem' b (nb - 1)
 match ← gallop' false y a 0 na (na - 1) with
 | some k =>
  if na - k > 0 then
   if (k == 0)=true then pure (.done (some (dnH a b (ak++(a.extract k na).reverse) k nb),k,nb,ak++(a.extract k na).reverse,mg,na - k,bc))
   else hT1 a b (ak++(a.extract k na).reverse) k nb mg (na - k) bc
  else hT1 a b ak na nb mg (na - k) bc
 | _=>pure (.done (some (dnH a b ak na nb),na,nb,ak,mg,ac,bc))
noncomputable def twoH (a b:Array Keyed) (_:Nat) (c:D2):StateT SortSt Sem (ForInStep D2) :=
 if c.2.2.2.2.1 > 1 then hB a b c.2.2.2.1 c.2.1 c.2.2.1 (c.2.2.2.2.1 - 1) c.2.2.2.2.2.1 c.2.2.2.2.2.2
 else hB a b c.2.2.2.1 c.2.1 c.2.2.1 c.2.2.2.2.1 c.2.2.2.2.2.1 c.2.2.2.2.2.2
noncomputable def outH (a b:Array Keyed) (_:Nat) (c:D0):StateT SortSt Sem (ForInStep D0):=do
 let s1 ← forIn [0:a.size+b.size] ((none,c.2.1,c.2.2.1,c.2.2.2.1,0,0):D1) (oneH a b c.2.2.2.2)
 match s1.1 with
 | some r=>pure (.done (some r,s1.2.1,s1.2.2.1,s1.2.2.2.1,c.2.2.2.2))
 | none=>do
  rule "list.sort.gallop"
  let s2 ← forIn [0:a.size+b.size] ((none,s1.2.1,s1.2.2.1,s1.2.2.2.1,c.2.2.2.2+1,s1.2.2.2.2.1,s1.2.2.2.2.2):D2) (twoH a b)
  match s2.1 with
  | some r=>pure (.done (some r,s2.2.1,s2.2.2.1,s2.2.2.2.1,s2.2.2.2.2.1))
  | none=>do
   setG (s2.2.2.2.2.1+1)
   pure (.yield (none,s2.2.1,s2.2.2.1,s2.2.2.2.1,s2.2.2.2.2.1+1))
theorem jO' (a b:Array Keyed):mergeHi' a b=(do
 rule "list.sort.merge-hi"
 let x ← elem' a (a.size - 1)
 if (a.size - 1 == 0)=true then pure (dnH a b #[x] (a.size - 1) b.size)
 else if (b.size == 1)=true then pure (fsB a b #[x] (a.size - 1) b.size)
 else do
  let st ← get
  let s ← forIn [0:a.size+b.size] ((none,a.size - 1,b.size,#[x],gallopOf st):D0) (outH a b)
  match s.1 with
  | some r=>pure r
  | none=>unsupported "internal:list.sort.merge-bound"):=by kernel_rfl
structure HI (la lb t:List Keyed) (na nb:Nat):Prop where
 perm:t.Perm (la.drop na++lb.drop nb)
 srt:SL t
 fromA:Le (la.take na) t
 fromB:Le (lb.take nb) t
theorem eS' {l:List Keyed}{j n:Nat} (hj:j<=n) (hn:n<=l.length):(l.take n).drop j++l.drop n=l.drop j:=by
 have:=List.drop_append_of_le_length (l₁:=l.take n) (l₂:=l.drop n) (i:=j) (by rw [length_take];omega)
 rw [take_append_drop] at this
 exact this.symm
theorem HI.a {la lb t:List Keyed}{na nb j:Nat} (h:HI la lb t na nb) (sa:SL la) (hn:na<=la.length) (hj:j<=na) (c:Le (lb.take nb) ((la.take na).drop j)):HI la lb ((la.take na).drop j++t) j nb:=by
 refine ⟨?_,((sa.take na).drop j).app h.srt λx hx y hy=>h.fromA x (mem_of_mem_drop hx) y hy,λx hx y hy=>?_,λx hx y hy=>?_⟩
 ·rw [← eS' hj hn,append_assoc]
  exact append_left _ h.perm
 ·rcases mem_append.mp hy with hy | hy
  ·have:=(sa.take na).cut j
   rw [take_take,min_eq_left hj] at this
   exact this x hx y hy
  ·refine h.fromA x ?_ y hy
   rw [show la.take j=(la.take na).take j by rw [take_take,min_eq_left hj]] at hx
   exact mem_of_mem_take hx
 ·rcases mem_append.mp hy with hy | hy
  ·exact c x hx y hy
  ·exact h.fromB x hx y hy
theorem HI.swap {la lb t:List Keyed}{na nb:Nat} (h:HI la lb t na nb):HI lb la t nb na:=⟨h.perm.trans perm_append_comm,h.srt,h.fromB,h.fromA⟩
theorem HI.b {la lb t:List Keyed}{na nb j:Nat} (h:HI la lb t na nb) (sb:SL lb) (hn:nb<=lb.length) (hj:j<=nb) (c:Le (la.take na) ((lb.take nb).drop j)):HI la lb ((lb.take nb).drop j++t) na j:=(h.swap.a sb hn hj c).swap
theorem HI.done {la lb t:List Keyed}{na nb:Nat} (h:HI la lb t na nb) (sa:SL la) (sb:SL lb) (c:Le (la.take na) (lb.take nb)):SL (la.take na++lb.take nb++t)/\(la.take na++lb.take nb++t).Perm (la++lb):=by
 refine ⟨((sa.take na).app (sb.take nb) c).app h.srt λx hx y hy=>?_,?_⟩
 ·rcases mem_append.mp hx with hx | hx
  ·exact h.fromA x hx y hy
  ·exact h.fromB x hx y hy
 ·have e:la++lb=(la.take na++la.drop na)++(lb.take nb++lb.drop nb):=by rw [take_append_drop,take_append_drop]
  rw [e]
  refine (h.perm.append_left _).trans ?_
  simp only [append_assoc]
  refine append_left (la.take na) ?_
  have:=append_right (lb.drop nb) (perm_append_comm (l₁:=lb.take nb) (l₂:=la.drop na))
  simpa only [append_assoc] using this
theorem cH' (a:Array Keyed) (i n:Nat):(a.extract i n).toList=(a.toList.take n).drop i:=by
 rw [Array.toList_extract,List.extract_eq_take_drop,drop_take]
theorem en' (a:Array Keyed) (n:Nat):(a.extract 0 n).toList=a.toList.take n:=by
 rw [cH',drop_zero]
theorem eo' {a:Array Keyed}{n:Nat}{x:Keyed} (hn:1<=n) (h:a[n - 1]?=some x):(a.toList.take n).drop (n - 1)=[x]:=by
 rw [drop_take,show n - (n - 1)=1 by omega]
 exact (aN' h).2
theorem dz' {a:Array Keyed}{n:Nat}{x:Keyed} (h:x∈a.toList.take n):∃ j,j < n/\j < a.size/\kN x=K a j:=by
 obtain ⟨j,h1,h2,h3⟩:=dy' (a:=a) (i:=0) (k:=n) (x:=x) (by simpa using h)
 rw [zero_add] at h2 h3
 exact ⟨j,h1,h2,h3⟩
theorem aR' {a:Array Keyed}{i n:Nat}{x:Keyed} (h:x∈(a.toList.take n).drop i):∃ j,i<=j/\j < n/\j < a.size/\kN x=K a j:=by
 rw [drop_take] at h
 obtain ⟨j,h1,h2,h3⟩:=dy' h
 exact ⟨i+j,by omega,by omega,h2,h3⟩
structure TwoH (a b:Array Keyed):Prop where
 ai:AllI a
 bi:AllI b
 sa:SL a.toList
 sb:SL b.toList
 first:Le (b.toList.take 1) a.toList
section
variable {a b ak:Array Keyed}{na nb n0:Nat}
abbrev HO (a b ak:Array Keyed) (na nb:Nat):Prop:=HI a.toList b.toList ak.toList.reverse na nb
theorem TwoH.fin1 (T:TwoH a b) (mi:HO a b ak na nb) (c:na=0\/nb=0):Fin a b (dnH a b ak na nb):=by
 have:=mi.done T.sa T.sb λx hx y hy=>by
  rcases c with rfl | rfl
  ·cases hx
  ·cases hy
 unfold Fin dnH
 rw [toList_append,toList_append,en',en',Array.toList_reverse]
 exact this
theorem TwoH.fin2 (T:TwoH a b) (mi:HO a b ak na nb) (c:nb=1):Fin a b (fsB a b ak na nb):=by
 have:=mi.swap.done T.sb T.sa λx hx y hy=>T.first x (by rw [← c];exact hx) y (mem_of_mem_take hy)
 unfold Fin fsB
 rw [toList_append,toList_append,en',en',Array.toList_reverse]
 exact ⟨this.1,this.2.trans perm_append_comm⟩
theorem hO' (ak:Array Keyed) (x:Keyed):(ak.push x).toList.reverse=[x]++ak.toList.reverse:=by simp
theorem i6' (ak p:Array Keyed):(ak++p.reverse).toList.reverse=p.toList++ak.toList.reverse:=by simp
theorem HI.pa (T:TwoH a b) (mi:HO a b ak na nb) (h1:1<=na) (h2:na<=a.size){x:Keyed} (ex:a[na - 1]?=some x) (c:∀ i,i < nb->i < b.size->K b i<=kN x):HO a b (ak.push x) (na - 1) nb:=by
 have:=mi.a (j:=na - 1) T.sa (by simpa using h2) (by omega) (by
  rw [eo' h1 ex]
  intro y hy z hz
  rw [mem_singleton] at hz
  subst hz
  obtain ⟨j,j1,j2,j3⟩:=dz' hy
  rw [j3]
  exact c j j1 j2)
 rw [eo' h1 ex] at this
 unfold HO
 rw [hO']
 exact this
theorem HI.pb (T:TwoH a b) (mi:HO a b ak na nb) (h1:1<=nb) (h2:nb<=b.size){y:Keyed} (ey:b[nb - 1]?=some y) (c:∀ i,i < na->i < a.size->K a i<=kN y):HO a b (ak.push y) na (nb - 1):=by
 have:=mi.b (j:=nb - 1) T.sb (by simpa using h2) (by omega) (by
  rw [eo' h1 ey]
  intro x hx z hz
  rw [mem_singleton] at hz
  subst hz
  obtain ⟨j,j1,j2,j3⟩:=dz' hx
  rw [j3]
  exact c j j1 j2)
 rw [eo' h1 ey] at this
 unfold HO
 rw [hO']
 exact this
structure OnH (a b ak:Array Keyed) (na nb n0:Nat):Prop where
 mi:HO a b ak na nb
 a1:1<=na
 a2:na<=a.size
 b1:2<=nb
 b2:nb<=b.size
 hn:n0+na+nb<=a.size+b.size
variable {prog:Program}{w:World}{A:Around}{E:Value->Shared->Prop}{s:Shared}{st:SortSt}
def Q2 (a b:Array Keyed) (st:SortSt) (n0:Nat) (c:D2) (ag:SortSt):Prop:=(∃ g,ag=setGal st g)/\((∃ r,c.1=some r/\Fin a b r)\/(c.1=none/\OnH a b c.2.2.2.1 c.2.1 c.2.2.1 n0))
def S2 (a b:Array Keyed) (st:SortSt) (n0:Nat) (r:ForInStep D2) (ag:SortSt):Prop:=match r with
 | .done c=>Q2 a b st n0 c ag
 | .yield c=>c.1=none/\Q2 a b st n0 c ag
theorem ld' {mg ac bc g:Nat} (T:TwoH a b) (o:OnH a b ak na nb n0) (c:∀ x,a[na - 1]?=some x->∀ i,i < nb->i < b.size->K b i<=kN x):wpS (model prog w) A E s (hT2 a b ak na nb mg ac bc) (S2 a b st n0) (setGal st g):=by
 obtain ⟨mi,a1,a2,b1,b2,hn⟩:=o
 obtain ⟨x,ex,_⟩:=az' (xs:=a) (i:=na - 1) (by omega)
 have m1:=HI.pa T mi a1 a2 ex (c x ex)
 unfold hT2
 refine wpS_bind (ay' ex ?_)
 by_cases e:na - 1=0
 ·rw [if_pos (by simpa using e)]
  exact wpS_pure ⟨⟨g,rfl⟩,.inl ⟨_,rfl,T.fin1 m1 (.inl e)⟩⟩
 ·rw [if_neg (by simpa using e)]
  have on:OnH a b (ak.push x) (na - 1) nb n0:=⟨m1,by omega,by omega,b1,b2,by omega⟩
  split
  ·exact wpS_pure ⟨⟨g,rfl⟩,.inr ⟨rfl,on⟩⟩
  ·exact wpS_pure ⟨rfl,⟨g,rfl⟩,.inr ⟨rfl,on⟩⟩
theorem le' {mg ac bc g:Nat} (hk:kindOf st=oneType') (T:TwoH a b) (o:OnH a b ak na nb n0) (c:∀ y,b[nb - 1]?=some y->∀ i,i < na->i < a.size->K a i<=kN y):wpS (model prog w) A E s (hT1 a b ak na nb mg ac bc) (S2 a b st n0) (setGal st g):=by
 obtain ⟨mi,a1,a2,b1,b2,hn⟩:=o
 obtain ⟨y,ey,_⟩:=az' (xs:=b) (i:=nb - 1) (by omega)
 obtain ⟨x,ex,kx⟩:=az' (xs:=a) (i:=na - 1) (by omega)
 have m1:=HI.pb T mi (by omega) b2 ey (c y ey)
 unfold hT1
 refine wpS_bind (ay' ey ?_)
 by_cases e:nb - 1=1
 ·rw [if_pos (by simpa using e)]
  exact wpS_pure ⟨⟨g,rfl⟩,.inl ⟨_,rfl,T.fin2 m1 e⟩⟩
 ·rw [if_neg (by simpa using e)]
  refine wpS_bind (ay' ex ?_)
  refine wpS_bind (bJ' (by exact hk) T.bi (T.ai _ _ ex) (by omega) (by omega) (λi j h1 h2 h3=>?_) λk dX bU cj=>?_)
  ·simp only [Bey,if_true,decide_eq_true_eq,zero_add] at h3 ⊢
   have:=bQ' T.sb (i:=i) (j:=j) (by omega) (by omega)
   omega
  ·simp only [Bey,if_true,decide_eq_true_eq,decide_eq_false_iff_not,zero_add] at bU cj
   dsimp only
   have low:∀ n,n<=k->∀ x',a[na - 1]?=some x'->∀ i,i < n->i < b.size->K b i<=kN x':=λn ef x' jH i h1 _=>by
    rw [ex] at jH
    cases jH
    have:=bU i (by omega)
    omega
   by_cases k0:nb - 1 - k > 0
   ·rw [if_pos k0]
    have m2:=m1.b (j:=k) T.sb (by simp;omega) (by omega) λz hz v hv=>by
     obtain ⟨j,j1,j2,j3⟩:=dz' hz
     obtain ⟨i,i1,i2,i3,i4⟩:=aR' hv
     have:=cj i i1 i2
     have:=bQ' T.sa (i:=j) (j:=na - 1) (by omega) (by omega)
     omega
    rw [← cH'] at m2
    have m2:HO a b (ak.push y++(b.extract k (nb - 1)).reverse) na k:=by unfold HO;rw [i6'];exact m2
    by_cases e2:k=1
    ·rw [if_pos (by simpa using e2)]
     exact wpS_pure ⟨⟨g,rfl⟩,.inl ⟨_,rfl,T.fin2 m2 e2⟩⟩
    ·rw [if_neg (by simpa using e2)]
     by_cases e3:k=0
     ·rw [if_pos (by simpa using e3)]
      exact wpS_pure ⟨⟨g,rfl⟩,.inl ⟨_,rfl,T.fin1 m2 (.inr e3)⟩⟩
     ·rw [if_neg (by simpa using e3)]
      exact ld' T ⟨m2,a1,a2,by omega,by omega,by omega⟩ (low k (le_refl _))
   ·rw [if_neg k0]
    exact ld' T ⟨m1,a1,a2,by omega,by omega,by omega⟩ (low (nb - 1) (by omega))
theorem qI' {mg ac bc g:Nat} (hk:kindOf st=oneType') (T:TwoH a b) (o:OnH a b ak na nb n0):wpS (model prog w) A E s (hB a b ak na nb mg ac bc) (S2 a b st n0) (setGal st g):=by
 obtain ⟨mi,a1,a2,b1,b2,hn⟩:=o
 obtain ⟨y,ey,ky⟩:=az' (xs:=b) (i:=nb - 1) (by omega)
 unfold hB setG
 refine wpS_bind (wpS_modify ?_)
 show wpS _ _ _ _ _ _ (setGal st mg)
 refine wpS_bind (ay' ey ?_)
 refine wpS_bind (bJ' (by exact hk) T.ai (T.bi _ _ ey) (by omega) (by omega) (λi j h1 h2 h3=>?_) λk dX bU cj=>?_)
 ·simp only [Bey,false_eq_true,if_false,not_eq_true',decide_eq_false_iff_not,zero_add] at h3 ⊢
  have:=bQ' T.sa (i:=i) (j:=j) (by omega) (by omega)
  omega
 ·simp only [Bey,false_eq_true,if_false,not_eq_true',not_eq_false',decide_eq_true_eq,decide_eq_false_iff_not,zero_add] at bU cj
  dsimp only
  have low:∀ n,n<=k->∀ y',b[nb - 1]?=some y'->∀ i,i < n->i < a.size->K a i<=kN y':=λn ef y' nM i h1 _=>by
   rw [ey] at nM
   cases nM
   have:=bU i (by omega)
   omega
  by_cases k0:na - k > 0
  ·rw [if_pos k0]
   have m2:=mi.a (j:=k) T.sa (by simpa using a2) (by omega) λz hz v hv=>by
    obtain ⟨j,j1,j2,j3⟩:=dz' hz
    obtain ⟨i,i1,i2,i3,i4⟩:=aR' hv
    have:=cj i i1 i2
    have:=bQ' T.sb (i:=j) (j:=nb - 1) (by omega) (by omega)
    omega
   rw [← cH'] at m2
   have m2:HO a b (ak++(a.extract k na).reverse) k nb:=by unfold HO;rw [i6'];exact m2
   by_cases e1:k=0
   ·rw [if_pos (by simpa using e1)]
    exact wpS_pure ⟨⟨mg,rfl⟩,.inl ⟨_,rfl,T.fin1 m2 (.inl e1)⟩⟩
   ·rw [if_neg (by simpa using e1)]
    exact le' hk T ⟨m2,by omega,by omega,b1,b2,by omega⟩ (low k (le_refl _))
  ·rw [if_neg k0]
   exact le' hk T ⟨mi,a1,a2,b1,b2,hn⟩ (low na (by omega))
def Q1 (a b:Array Keyed) (st:SortSt) (n0:Nat) (c:D1) (ag:SortSt):Prop:=(∃ g,ag=setGal st g)/\((∃ r,c.1=some r/\Fin a b r)\/(c.1=none/\OnH a b c.2.2.2.1 c.2.1 c.2.2.1 n0))
theorem ot' {mg x ac bc g:Nat} (hk:kindOf st=oneType') (T:TwoH a b) (o:OnH a b ak na nb n0):wpS (model prog w) A E s (oneH a b mg x (none,na,nb,ak,ac,bc)) (λr ag=>match r with
  | .done c=>Q1 a b st (n0+1) c ag
  | .yield c=>c.1=none/\Q1 a b st (n0+1) c ag) (setGal st g):=by
 obtain ⟨mi,a1,a2,b1,b2,hn⟩:=o
 obtain ⟨y,ey,ky⟩:=az' (xs:=b) (i:=nb - 1) (by omega)
 obtain ⟨x,ex,kx⟩:=az' (xs:=a) (i:=na - 1) (by omega)
 unfold oneH
 dsimp only
 refine wpS_bind (ay' ey (wpS_bind (ay' ex (wpS_bind (fz' (by exact hk) (T.bi _ _ ey) (T.ai _ _ ex) ?_)))))
 dsimp only
 by_cases l:kN y < kN x
 ·rw [if_pos (by simpa using l)]
  have m1:=HI.pa T mi a1 a2 ex λi h1 h2=>by
   have:=bQ' T.sb (i:=i) (j:=nb - 1) (by omega) (by omega)
   omega
  refine wpS_bind (ay' ex ?_)
  by_cases e:na - 1=0
  ·rw [if_pos (by simpa using e)]
   exact wpS_pure ⟨⟨g,rfl⟩,.inl ⟨_,rfl,T.fin1 m1 (.inl e)⟩⟩
  ·rw [if_neg (by simpa using e)]
   have on:OnH a b (ak.push x) (na - 1) nb (n0+1):=⟨m1,by omega,by omega,b1,b2,by omega⟩
   split
   ·exact wpS_pure ⟨⟨g,rfl⟩,.inr ⟨rfl,on⟩⟩
   ·exact wpS_pure ⟨rfl,⟨g,rfl⟩,.inr ⟨rfl,on⟩⟩
 ·rw [if_neg (by simpa using l)]
  have m1:=HI.pb T mi (by omega) b2 ey λi h1 h2=>by
   have:=bQ' T.sa (i:=i) (j:=na - 1) (by omega) (by omega)
   omega
  refine wpS_bind (ay' ey ?_)
  by_cases e:nb - 1=1
  ·rw [if_pos (by simpa using e)]
   exact wpS_pure ⟨⟨g,rfl⟩,.inl ⟨_,rfl,T.fin2 m1 e⟩⟩
  ·rw [if_neg (by simpa using e)]
   have on:OnH a b (ak.push y) na (nb - 1) (n0+1):=⟨m1,a1,a2,by omega,by omega,by omega⟩
   split
   ·exact wpS_pure ⟨⟨g,rfl⟩,.inr ⟨rfl,on⟩⟩
   ·exact wpS_pure ⟨rfl,⟨g,rfl⟩,.inr ⟨rfl,on⟩⟩
theorem OnH.less {m:Nat} (o:OnH a b ak na nb n0) (h:m<=n0):OnH a b ak na nb m:=⟨o.mi,o.a1,o.a2,o.b1,o.b2,by have:=o.hn;omega⟩
theorem ou' {x mg g:Nat} (hk:kindOf st=oneType') (T:TwoH a b) (o:OnH a b ak na nb n0):wpS (model prog w) A E s (outH a b x (none,na,nb,ak,mg)) (λr ag=>match r with
  | .done c=>(∃ g,ag=setGal st g)/\∃ r,c.1=some r/\Fin a b r
  | .yield c=>c.1=none/\(∃ g,ag=setGal st g)/\OnH a b c.2.2.2.1 c.2.1 c.2.2.1 (n0+1)) (setGal st g):=by
 have h1:=o.a1
 have h2:=o.a2
 unfold outH
 dsimp only
 refine wpS_bind (wpS_mono (wpS_forRange (I:=λx c ag=>(∃ g,ag=setGal st g)/\c.1=none/\OnH a b c.2.2.2.1 c.2.1 c.2.2.1 (n0+x)) (Q:=Q1 a b st (n0+1)) ?_ ?_ ⟨⟨g,rfl⟩,rfl,o⟩) ?_)
 ·rintro x ⟨r,i1,j1,o1,c1,d1⟩ ag - hx ⟨⟨g,rfl⟩,h1,h2⟩
  dsimp only at h1 h2
  subst h1
  refine wpS_mono (ot' hk T h2) λr ag q=>?_
  cases r with
  | done c =>
   refine ⟨q.1,?_⟩
   rcases q.2 with q | q
   ·exact .inl q
   ·exact .inr ⟨q.1,q.2.less (by omega)⟩
  | yield c =>
   obtain ⟨q0,q1,q2⟩:=q
   refine ⟨q1,q0,?_⟩
   rcases q2 with ⟨r,q2,_⟩ | ⟨_,q2⟩
   ·rw [q0] at q2;cases q2
   ·exact q2
 ·rintro ⟨r,i1,j1,o1,c1,d1⟩ ag ⟨h0,h1,h2⟩
  exact ⟨h0,.inr ⟨h1,h2.less (by omega)⟩⟩
 ·rintro ⟨r,i1,j1,o1,c1,d1⟩ ag ⟨⟨g,rfl⟩,h2⟩
  rcases h2 with ⟨r',e,h2⟩ | ⟨e,h2⟩
  ·dsimp only at e
   subst e
   exact wpS_pure ⟨⟨g,rfl⟩,r',rfl,h2⟩
  ·dsimp only at e h2
   subst e
   dsimp only
   refine wpS_bind (wpS_lift (wpAny_rule ⟨rfl,?_⟩))
   refine wpS_bind (wpS_mono (wpS_forRange (I:=λx c ag=>(∃ g,ag=setGal st g)/\c.1=none/\OnH a b c.2.2.2.1 c.2.1 c.2.2.1 (n0+1)) (Q:=Q2 a b st (n0+1)) ?_ ?_ ⟨⟨g,rfl⟩,rfl,h2⟩) ?_)
   ·rintro x ⟨r,i2,j2,o2,m2,c2,d2⟩ ag - hx ⟨⟨g,rfl⟩,h1,h2⟩
    dsimp only at h1 h2
    subst h1
    unfold twoH
    dsimp only
    split
    all_goals
     refine wpS_mono (qI' hk T h2) λr ag q=>?_
     cases r with
     | done c=>exact q
     | yield c =>
      obtain ⟨q0,q1,q2⟩:=q
      refine ⟨q1,q0,?_⟩
      rcases q2 with ⟨r,q2,_⟩ | ⟨_,q2⟩
      ·rw [q0] at q2;cases q2
      ·exact q2
   ·rintro ⟨r,i2,j2,o2,m2,c2,d2⟩ ag ⟨h0,h1,h2⟩
    exact ⟨h0,.inr ⟨h1,h2⟩⟩
   ·rintro ⟨r,i2,j2,o2,m2,c2,d2⟩ ag ⟨⟨g,rfl⟩,h2⟩
    rcases h2 with ⟨r',e,h2⟩ | ⟨e,h2⟩
    ·dsimp only at e
     subst e
     exact wpS_pure ⟨⟨g,rfl⟩,r',rfl,h2⟩
    ·dsimp only at e h2
     subst e
     dsimp only
     unfold setG
     exact wpS_bind (wpS_modify (wpS_pure ⟨rfl,⟨m2+1,rfl⟩,h2⟩))
theorem jP' {Q:Array Keyed->SortSt->Prop} (hk:kindOf st=oneType') (T:TwoH a b) (na:1<=a.size) (nb:1<=b.size) (last:Le b.toList (a.toList.drop (a.size - 1))) (h:∀ r g,Fin a b r->Q r (setGal st g)) :
  wpS (model prog w) A E s (mergeHi' a b) Q st:=by
 obtain ⟨x,ex,kx⟩:=az' (xs:=a) (i:=a.size - 1) (by omega)
 have m0:HO a b #[] a.size b.size:=⟨by simp,List.Pairwise.nil,λx hx y hy=>(by cases hy),λx hx y hy=>(by cases hy)⟩
 have m1:HO a b #[x] (a.size - 1) b.size:=HI.pa T m0 na (le_refl _) ex λi h1 h2=>by
  obtain ⟨y,ey,ky⟩:=az' h2
  rw [ky]
  refine last y ?_ x ?_
  ·rw [← getElem?_toList] at ey
   exact mem_of_getElem? ey
  ·rw [(aN' ex).1]
   exact mem_cons_self
 rw [jO']
 refine wpS_bind (wpS_lift (wpAny_rule ⟨rfl,?_⟩))
 refine wpS_bind (ay' ex ?_)
 by_cases e1:a.size - 1=0
 ·rw [if_pos (by simpa using e1)]
  exact wpS_pure (h _ (gallopOf st) (T.fin1 m1 (.inl e1)))
 ·rw [if_neg (by simpa using e1)]
  by_cases e2:b.size=1
  ·rw [if_pos (by simpa using e2)]
   exact wpS_pure (h _ (gallopOf st) (T.fin2 m1 e2))
  ·rw [if_neg (by simpa using e2)]
   have o1:OnH a b #[x] (a.size - 1) b.size 1:=⟨m1,by omega,by omega,by omega,by omega,by omega⟩
   refine wpS_bind (wpS_get ?_)
   refine wpS_bind (wpS_mono (wpS_forRange (I:=λx c ag=>(∃ g,ag=setGal st g)/\c.1=none/\OnH a b c.2.2.2.1 c.2.1 c.2.2.1 (x+1)) (Q:=λc ag=>(∃ g,ag=setGal st g)/\∃ r,c.1=some r/\Fin a b r) ?_ ?_ ⟨⟨gallopOf st,rfl⟩,rfl,o1⟩) ?_)
   ·rintro x ⟨r,i1,j1,o1,m1⟩ ag - hx ⟨⟨g,rfl⟩,h1,h2⟩
    dsimp only at h1 h2
    subst h1
    refine wpS_mono (ou' hk T h2) λr ag q=>?_
    cases r with
    | done c=>exact q
    | yield c=>exact ⟨q.2.1,q.1,q.2.2⟩
   ·rintro ⟨r,i1,j1,o1,m1⟩ ag ⟨h0,h1,h2⟩
    have:=h2.a1
    have:=h2.b1
    have:=h2.hn
    dsimp only at *
    omega
   ·rintro ⟨r,i1,j1,o1,m1⟩ ag ⟨⟨g,rfl⟩,r',e,h2⟩
    dsimp only at e
    subst e
    exact wpS_pure (h r' g h2)
end
noncomputable def layIn (xs:Array Keyed) (at_:Nat) (m:List Keyed):Array Keyed:=m.zipIdx.foldl (λa (p:Keyed×Nat)=>a.setIfInBounds (at_+p.2) p.1) xs
theorem lf' (at_:Nat):∀ (m:List Keyed) (n:Nat) (xs:Array Keyed),at_+n+m.length<=xs.size->((m.zipIdx n).foldl (λa (p:Keyed×Nat)=>a.setIfInBounds (at_+p.2) p.1) xs).toList=xs.toList.take (at_+n)++m++xs.toList.drop (at_+n+m.length)
 | [],n,xs,_=>by simp
 | x::m,n,xs,h=>by
  rw [length_cons] at h
  rw [List.zipIdx_cons,foldl_cons,lf' at_ m (n+1) _ (by simp;omega)]
  dsimp only
  rw [Array.toList_setIfInBounds]
  have hl:at_+n < xs.toList.length:=by simp;omega
  rw [List.set_eq_take_append_cons_drop,if_pos hl]
  have e1:(xs.toList.take (at_+n)++x::xs.toList.drop (at_+n+1)).take (at_+(n+1))=xs.toList.take (at_+n)++[x]:=by
   rw [take_append,take_take]
   have:(List.take (at_+n) xs.toList).length=at_+n:=by rw [length_take];omega
   rw [this,show at_+(n+1) - (at_+n)=1 by omega,Nat.min_eq_right (by omega)]
   rfl
  have e2:(xs.toList.take (at_+n)++x::xs.toList.drop (at_+n+1)).drop (at_+(n+1)+m.length)=xs.toList.drop (at_+n+(m.length+1)):=by
   have:(List.take (at_+n) xs.toList).length=at_+n:=by rw [length_take];omega
   rw [List.drop_append,this,drop_eq_nil_of_le (by rw [this];omega),nil_append,show at_+(n+1)+m.length - (at_+n)=m.length+1 by omega,drop_succ_cons,drop_drop]
   congr 1
   omega
  rw [e1,e2]
  simp
theorem p2' {xs:Array Keyed}{at_:Nat}{m:List Keyed} (h:at_+m.length<=xs.size):(layIn xs at_ m).toList=xs.toList.take at_++m++xs.toList.drop (at_+m.length):=lf' at_ m 0 xs h
theorem jQ' (i:Nat):mergeAt' i=(do
 let st ← get
 match (pendingOf st)[i]?,(pendingOf st)[i+1]? with
 | some u,some v=>do
  set (setPending st (((pendingOf st).setIfInBounds i (u.1,u.2.1+v.2.1,u.2.2)).eraseIdxIfInBounds (i+1)))
  let y ← elem' (arrOf st) v.1
  match ← gallop' false y (arrOf st) u.1 u.2.1 0 with
  | some k =>
   if (u.2.1 - k == 0)=true then pure true else do
   let x ← elem' (arrOf st) (u.1+k+(u.2.1 - k) - 1)
   match ← gallop' true x (arrOf st) v.1 v.2.1 (v.2.1 - 1) with
   | some m =>
    if (m == 0)=true then pure true else do
    let r ← if u.2.1 - k<=m then mergeLo' ((arrOf st).extract (u.1+k) v.1) ((arrOf st).extract v.1 (v.1+m)) else mergeHi' ((arrOf st).extract (u.1+k) v.1) ((arrOf st).extract v.1 (v.1+m))
    modify λag=>setArr ag (layIn (arrOf ag) (u.1+k) r.toList)
    let ag ← get
    pure (failedOf ag).isNone
   | _=>pure false
  | _=>pure false
 | _,_=>unsupported "internal:list.sort.pending"):=by kernel_rfl
structure SB (a₀:Array Keyed) (st:SortSt):Prop where
 perm:(arrOf st).toList.Perm a₀.toList
 kind:kindOf st=oneType'
 failed:failedOf st=none
theorem AllI.mem {xs:Array Keyed} (h:AllI xs){x:Keyed} (hx:x∈xs.toList):IsI x:=by
 obtain ⟨i,hi,e⟩:=mem_iff_getElem.mp hx
 exact h i x (by rw [← getElem?_toList,getElem?_eq_getElem hi,e])
theorem AllI.of {xs:Array Keyed} (h:∀ x∈xs.toList,IsI x):AllI xs:=λi x e=>by
 rw [← getElem?_toList] at e
 exact h x (mem_of_getElem? e)
section
variable {prog:Program}{w:World}{A:Around}{E:Value->Shared->Prop}{s:Shared}{st:SortSt}{a₀:Array Keyed}
theorem SB.ints (B:SB a₀ st) (h0:AllI a₀):AllI (arrOf st):=AllI.of λx hx=>h0.mem (B.perm.mem_iff.mp hx)
theorem SB.size (B:SB a₀ st):(arrOf st).size=a₀.size:=by simpa using B.perm.length_eq
def Run (l:List Keyed) (i j:Nat):Prop:=SL ((l.take j).drop i)
theorem Run.K {xs:Array Keyed}{i j:Nat} (h:Run xs.toList i j) (hj:j<=xs.size){p q:Nat} (h1:i<=p) (h2:p<=q) (h3:q < j):K xs p<=K xs q:=by
 rw [Run,← cH'] at h
 have sz:(xs.extract i j).size=j - i:=by simp;omega
 have:=bQ' h (i:=p - i) (j:=q - i) (by omega) (by omega)
 have g:∀ r,i<=r->r < j->TS.kN=TS.kN->PyProof.Rows.K (xs.extract i j) (r - i)=PyProof.Rows.K xs r:=λr r1 r2 _=>by
  refine K_congr ?_
  rw [getElem?_extract]
  rw [if_pos (by omega),show i+(r - i)=r by omega]
 rw [g p h1 (by omega) rfl,g q (by omega) h3 rfl] at this
 exact this
theorem Run.of {xs:Array Keyed}{i j:Nat} (hj:j<=xs.size) (h:∀ p q,i<=p->p<=q->q < j->PyProof.Rows.K xs p<=PyProof.Rows.K xs q):Run xs.toList i j:=by
 unfold Run SL
 rw [pairwise_iff_getElem]
 intro p q hp hq fN
 rw [length_drop,length_take,length_toList] at hp hq
 have g:∀ r (hr:r < ((xs.toList.take j).drop i).length),kN ((xs.toList.take j).drop i)[r]=PyProof.Rows.K xs (i+r):=λr hr=>by
  rw [length_drop,length_take,length_toList] at hr
  refine (fA' ?_).symm
  rw [← getElem?_toList,getElem_drop,List.getElem_take]
  exact getElem?_eq_getElem _
 rw [g,g]
 exact h _ _ (by omega) (by omega) (by omega)
theorem Run.app {l:List Keyed}{i j k:Nat} (h1:i<=j) (h2:j<=k) (h3:k<=l.length) (a:Run l i j) (b:Run l j k) (c:Le ((l.take j).drop i) ((l.take k).drop j)):Run l i k:=by
 unfold Run at *
 have:(l.take k).drop i=(l.take j).drop i++(l.take k).drop j:=by
  have:=eS' (l:=l.take k) (j:=i) (n:=j) h1 (by rw [length_take];omega)
  rw [take_take,min_eq_left h2] at this
  exact this.symm
 rw [this]
 exact a.app b c
theorem jR' {i sa na sb nb pw pw':Nat}{Q:Bool->SortSt->Prop} (B:SB a₀ st) (h0:AllI a₀) (p1:(pendingOf st)[i]?=some (sa,na,pw)) (p2:(pendingOf st)[i+1]?=some (sb,nb,pw')) (e:sb=sa+na) (ha:1<=na) (hb:1<=nb) (hs:sb+nb<=a₀.size)
  (r1:Run (arrOf st).toList sa sb) (r2:Run (arrOf st).toList sb (sb+nb))
  (h:∀ ag,SB a₀ ag->pendingOf ag=((pendingOf st).setIfInBounds i (sa,na+nb,pw)).eraseIdxIfInBounds (i+1)->(arrOf ag).toList.take sa=(arrOf st).toList.take sa->(arrOf ag).toList.drop (sb+nb)=(arrOf st).toList.drop (sb+nb)->Run (arrOf ag).toList sa (sb+nb)->Q true ag) :
  wpS (model prog w) A E s (mergeAt' i) Q st:=by
 have ai:=B.ints h0
 have sz:=B.size
 have z2:sb+nb<=(arrOf st).size:=by rw [sz];exact hs
 have z1:sb<=(arrOf st).size:=le_trans (le_add_right sb nb) z2
 rw [jQ']
 refine wpS_bind (wpS_get ?_)
 rw [p1,p2]
 dsimp only
 obtain ⟨bK,e1⟩:∃ bK,bK=setPending st (((pendingOf st).setIfInBounds i (sa,na+nb,pw)).eraseIdxIfInBounds (i+1)):=⟨_,rfl⟩
 have B1:SB a₀ bK:=by rw [e1];exact ⟨B.perm,B.kind,B.failed⟩
 have iI:arrOf bK=arrOf st:=by rw [e1]
 have nN:pendingOf bK=((pendingOf st).setIfInBounds i (sa,na+nb,pw)).eraseIdxIfInBounds (i+1):=by rw [e1]
 have bg:Le (((arrOf st).toList.take sb).drop sa) (((arrOf st).toList.take (sb+nb)).drop sb)->Q true bK:=λc=>by
  refine h bK B1 nN (by rw [iI]) (by rw [iI]) ?_
  rw [iI]
  exact Run.app (by rw [e];exact le_add_right sa na) (le_add_right sb nb) (by rw [length_toList];exact z2) r1 r2 c
 refine wpS_bind (m:=set _) (show wpS _ _ _ _ (modify λ_=>_) _ _ from wpS_modify ?_)
 rw [← e1]
 obtain ⟨y,ey,ky⟩:=az' (xs:=arrOf st) (i:=sb) (lt_of_lt_of_le (Nat.lt_add_of_pos_right hb) z2)
 refine wpS_bind (ay' ey ?_)
 refine wpS_bind (bJ' B1.kind ai (ai _ _ ey) (by omega) (by omega) (λi j h1 h2 h3=>?_) λk dX bU cj=>?_)
 ·simp only [Bey,false_eq_true,if_false,not_eq_true',decide_eq_false_iff_not] at h3 ⊢
  have:=r1.K z1 (p:=sa+i) (q:=sa+j) (le_add_right sa i) (by omega) (by omega)
  omega
 simp only [Bey,false_eq_true,if_false,not_eq_true',not_eq_false',decide_eq_true_eq,decide_eq_false_iff_not] at bU cj
 have ly:∀ q,sb<=q->q < sb+nb->kN y<=K (arrOf st) q:=λq q1 q2=>by rw [← ky];exact r2.K z2 (le_refl _) q1 q2
 dsimp only
 by_cases k0:na - k=0
 ·rw [if_pos (by simpa using k0)]
  refine wpS_pure (bg λz hz v hv=>?_)
  obtain ⟨j,j1,j2,j3,j4⟩:=aR' hz
  obtain ⟨i,i1,i2,i3,i4⟩:=aR' hv
  have:=bU (j - sa) (by omega)
  rw [add_sub_of_le j1] at this
  have:=ly i i1 i2
  omega
 rw [if_neg (by simpa using k0)]
 obtain ⟨x,ex,kx⟩:=az' (xs:=arrOf st) (i:=sa+k+(na - k) - 1) (by omega)
 have lx:∀ p,sa<=p->p < sb->K (arrOf st) p<=kN x:=λp q1 q2=>by rw [← kx];exact r1.K z1 q1 (by omega) (by omega)
 refine wpS_bind (ay' ex ?_)
 refine wpS_bind (bJ' B1.kind ai (ai _ _ ex) (by omega) (by omega) (λi j h1 h2 h3=>?_) λm gE nO kt=>?_)
 ·simp only [Bey,if_true,decide_eq_true_eq] at h3 ⊢
  have:=r2.K z2 (p:=sb+i) (q:=sb+j) (le_add_right sb i) (by omega) (by omega)
  omega
 simp only [Bey,if_true,decide_eq_true_eq,decide_eq_false_iff_not] at nO kt
 dsimp only
 by_cases m0:m=0
 ·rw [if_pos (by simpa using m0)]
  refine wpS_pure (bg λz hz v hv=>?_)
  obtain ⟨j,j1,j2,j3,j4⟩:=aR' hz
  obtain ⟨i,i1,i2,i3,i4⟩:=aR' hv
  have:=kt (i - sb) (by omega) (by omega)
  rw [add_sub_of_le i1] at this
  have:=lx j j1 j2
  omega
 rw [if_neg (by simpa using m0)]
 obtain ⟨X,eX⟩:∃ X,X=(arrOf st).extract (sa+k) sb:=⟨_,rfl⟩
 obtain ⟨Y,eY⟩:∃ Y,Y=(arrOf st).extract sb (sb+m):=⟨_,rfl⟩
 rw [← eX,← eY]
 have tX:X.toList=((arrOf st).toList.take sb).drop (sa+k):=by rw [eX,cH']
 have tY:Y.toList=((arrOf st).toList.take (sb+m)).drop sb:=by rw [eY,cH']
 have zX:X.size=sb - (sa+k):=by rw [eX];simp;omega
 have zY:Y.size=m:=by rw [eY];simp;omega
 have sX:SL X.toList:=by
  rw [tX,← drop_drop]
  exact SL.drop r1 k
 have sY:SL Y.toList:=by
  rw [tY]
  have:=SL.take r2 m
  rw [drop_take] at this ⊢
  rw [take_take] at this
  rw [Nat.add_sub_cancel_left,min_eq_left gE] at this
  rw [Nat.add_sub_cancel_left]
  exact this
 have iX:AllI X:=AllI.of λz hz=>ai.mem (by rw [tX] at hz;exact mem_of_mem_take (mem_of_mem_drop hz))
 have iY:AllI Y:=AllI.of λz hz=>ai.mem (by rw [tY] at hz;exact mem_of_mem_take (mem_of_mem_drop hz))
 have first:Le (Y.toList.take 1) X.toList:=λz hz v hv=>by
  have e0:(Y.toList.take 1)=[y]:=by
   rw [tY,← cH',← drop_zero (l:=(Array.extract _ _ _).toList)]
   refine (aN' ?_).2
   rw [getElem?_extract,if_pos (by omega)]
   exact ey
  rw [e0,mem_singleton] at hz
  subst hz
  rw [tX] at hv
  obtain ⟨j,j1,j2,j3,j4⟩:=aR' hv
  have:=cj (j - sa) (by omega) (by omega)
  rw [add_sub_of_le (le_trans (le_add_right sa k) j1)] at this
  omega
 have last:Le Y.toList (X.toList.drop (X.size - 1)):=λz hz v hv=>by
  have e0:X[X.size - 1]?=some x:=by
   rw [eX,getElem?_extract,if_pos (by simp;omega),← ex]
   congr 1
   simp
   omega
  rw [(aN' e0).1,drop_eq_nil_of_le (by simp;omega),mem_singleton] at hv
  subst hv
  rw [tY] at hz
  obtain ⟨j,j1,j2,j3,j4⟩:=aR' hz
  have:=nO (j - sb) (by omega)
  rw [add_sub_of_le j1] at this
  omega
 have fin:∀ r g,Fin X Y r->wpS (model prog w) A E s (do
   modify λag=>setArr ag (layIn (arrOf ag) (sa+k) r.toList)
   let ag ← get
   pure (failedOf ag).isNone) Q (setGal bK g):=λr g ⟨f1,f2⟩=>by
  have lr:r.toList.length=sb - (sa+k)+m:=by rw [f2.length_eq];simp [zX,zY]
  have lo:=p2' (xs:=arrOf st) (at_:=sa+k) (m:=r.toList) (by omega)
  rw [lr,show sa+k+(sb - (sa+k)+m)=sb+m by omega] at lo
  obtain ⟨L,eL⟩:∃ L,L=(arrOf st).toList:=⟨_,rfl⟩
  have ll:L.length=a₀.size:=by rw [eL];simp [sz]
  rw [← eL] at lo tX tY r1 r2
  have tl:(L.take (sa+k)).length=sa+k:=by rw [length_take];omega
  refine wpS_bind (wpS_modify (wpS_bind (wpS_get ?_)))
  show wpS _ _ _ _ (pure (failedOf bK).isNone) _ _
  rw [B1.failed]
  refine wpS_pure ?_
  have iJ:arrOf (setArr (setGal bK g) (layIn (arrOf (setGal bK g)) (sa+k) r.toList))=layIn (arrOf st) (sa+k) r.toList:=by
   show layIn (arrOf bK) (sa+k) r.toList=_
   rw [iI]
  refine h _ ⟨?_,B1.kind,B1.failed⟩ nN ?_ ?_ ?_
  ·rw [iJ,lo]
   have p3:(L.take (sa+k)++r.toList++L.drop (sb+m)).Perm (L.take (sa+k)++(X.toList++Y.toList)++L.drop (sb+m)):=(f2.append_left _).append_right _
   refine p3.trans ?_
   have:L.take (sa+k)++(X.toList++Y.toList)++L.drop (sb+m)=L:=by
    rw [tX,tY]
    have c1:=eS' (l:=L.take (sb+m)) (j:=sa+k) (n:=sb) (by omega) (by rw [length_take];omega)
    rw [take_take,min_eq_left (le_add_right sb m)] at c1
    rw [c1]
    have c2:=take_append_drop (sa+k) (L.take (sb+m))
    rw [take_take,show min (sa+k) (sb+m)=sa+k by omega] at c2
    rw [c2,take_append_drop]
   rw [this,eL]
   exact B.perm
  ·rw [iJ,lo,append_assoc,take_append,take_take,tl,Nat.sub_eq_zero_of_le (le_add_right sa k),take_zero,append_nil,min_eq_left (le_add_right sa k),eL]
  ·rw [iJ,lo,List.drop_append,drop_eq_nil_of_le (by rw [length_append,tl,lr];omega),nil_append,drop_drop,length_append,tl,lr,eL]
   congr 1
   omega
  ·rw [iJ,lo]
   unfold Run
   have e4:(L.drop (sb+m)).take (sb+nb - (sa+k) - (sb - (sa+k)+m))=(L.take (sb+nb)).drop (sb+m):=by
    rw [drop_take]
    congr 1
    omega
   have e3:(List.drop sa (List.take (sb+nb) (L.take (sa+k)++r.toList++L.drop (sb+m))))=(L.take (sa+k)).drop sa++(r.toList++(L.take (sb+nb)).drop (sb+m)):=by
    rw [append_assoc,take_append,take_append,take_of_length_le (by rw [tl];omega),tl,take_of_length_le (l:=r.toList) (by omega),lr,e4,List.drop_append_of_le_length (by rw [tl];omega)]
   rw [e3]
   have A1:SL ((L.take (sa+k)).drop sa):=by
    have:=SL.take r1 k
    rw [drop_take] at this ⊢
    rw [take_take] at this
    rw [show min k (sb - sa)=k by omega] at this
    rw [Nat.add_sub_cancel_left]
    exact this
   have B2:SL ((L.take (sb+nb)).drop (sb+m)):=by
    rw [← drop_drop]
    exact SL.drop r2 m
   have jm:∀ z∈r.toList,(∃ j,sa+k<=j/\j < sb/\kN z=K (arrOf st) j)\/∃ j,sb<=j/\j < sb+m/\kN z=K (arrOf st) j:=λz hz=>by
    rcases mem_append.mp (f2.mem_iff.mp hz) with q | q
    ·rw [tX,eL] at q
     obtain ⟨j,j1,j2,j3,j4⟩:=aR' q
     exact .inl ⟨j,j1,j2,j4⟩
    ·rw [tY,eL] at q
     obtain ⟨j,j1,j2,j3,j4⟩:=aR' q
     exact .inr ⟨j,j1,j2,j4⟩
   have nQ:=r1
   have nR:=r2
   rw [eL] at nQ nR
   refine A1.app (SL.app f1 B2 λz hz v hv=>?_) λz hz v hv=>?_
   ·rw [eL] at hv
    obtain ⟨i,i1,i2,i3,i4⟩:=aR' hv
    have g1:=kt (i - sb) (by omega) (by omega)
    rw [add_sub_of_le (le_trans (le_add_right sb m) i1)] at g1
    rcases jm z hz with ⟨j,j1,j2,j3⟩ | ⟨j,j1,j2,j3⟩
    ·have:=lx j (by omega) j2
     omega
    ·have:=nR.K z2 (p:=j) (q:=i) j1 (by omega) i2
     omega
   ·rw [eL] at hz
    obtain ⟨i,i1,i2,i3,i4⟩:=aR' hz
    have g1:=bU (i - sa) (by omega)
    rw [add_sub_of_le i1] at g1
    rcases mem_append.mp hv with hv | hv
    ·rcases jm v hv with ⟨j,j1,j2,j3⟩ | ⟨j,j1,j2,j3⟩
     ·have:=nQ.K z1 (p:=i) (q:=j) i1 (by omega) j2
      omega
     ·have:=ly j j1 (by omega)
      omega
    ·rw [eL] at hv
     obtain ⟨j,j1,j2,j3,j4⟩:=aR' hv
     have:=ly j (by omega) j2
     omega
 by_cases le:na - k<=m
 ·rw [if_pos le]
  exact wpS_bind (jN' B1.kind ⟨iX,iY,sX,sY,last⟩ (by omega) (by omega) first fin)
 ·rw [if_neg le]
  exact wpS_bind (jP' B1.kind ⟨iX,iY,sX,sY,first⟩ (by omega) (by omega) last fin)
end
abbrev A2:=Option (Option Nat)×Nat
abbrev A3:=Option (Option Nat)×Nat×Nat
noncomputable def upB (lo:Nat) (_:Nat) (c:A2):StateT SortSt Sem (ForInStep A2):=do
 match ← ltAt' (lo+c.2) (lo+c.2 - 1) with
 | some q=>if q then pure (.done (none,c.2)) else pure (.yield (none,c.2+1))
 | _=>pure (.done (some none,c.2))
noncomputable def dnB (lo:Nat) (_:Nat) (c:A3):StateT SortSt Sem (ForInStep A3):=do
 match ← ltAt' (lo+c.2.1) (lo+c.2.1 - 1) with
 | some q =>
  if q then
   if c.2.2 > 0 then do
    reverseSlice' (lo+c.2.1 - (c.2.2+1)) (lo+c.2.1)
    pure (.yield (none,c.2.1+1,0))
   else pure (.yield (none,c.2.1+1,0))
  else do
   match ← ltAt' (lo+c.2.1 - 1) (lo+c.2.1) with
   | some q=>if q then pure (.done (none,c.2.1,c.2.2)) else pure (.yield (none,c.2.1+1,c.2.2+1))
   | _=>pure (.done (some none,c.2.1,c.2.2))
 | _=>pure (.done (some none,c.2.1,c.2.2))
noncomputable def upL (lo m n:Nat):StateT SortSt Sem (Option Nat):=do
 let c ← forIn [n:m] ((none,n):A2) (upB lo)
 match c.1 with
 | some r=>pure r
 | none=>pure (some c.2)
def endL (lo m n:Nat):StateT SortSt Sem (Option Nat):=do
 reverseSlice' lo (lo+n)
 upL lo m n
noncomputable def dnL (lo m n:Nat):StateT SortSt Sem (Option Nat):=do
 rule "list.sort.descending-run"
 let c ← forIn [n+1:m] ((none,n+1,0):A3) (dnB lo)
 match c.1 with
 | some r=>pure r
 | none =>
  if c.2.2 > 0 then do
   reverseSlice' (lo+c.2.1 - (c.2.2+1)) (lo+c.2.1)
   endL lo m c.2.1
  else endL lo m c.2.1
theorem mD' (lo m:Nat):countRun' lo m=(do
 let c ← forIn [1:m] ((none,1):A2) (upB lo)
 match c.1 with
 | some r=>pure r
 | none =>
  if (c.2 == m)=true then pure (some c.2)
  else if c.2 > 1 then do
   match ← ltAt' lo (lo+c.2 - 1) with
   | some q=>if q then pure (some c.2) else do
    reverseSlice' lo (lo+c.2)
    dnL lo m c.2
   | _=>pure none
  else dnL lo m c.2):=by kernel_rfl
section
variable {prog:Program}{w:World}{A:Around}{E:Value->Shared->Prop}{s:Shared}{st bz:SortSt}{a₀:Array Keyed}{lo m n:Nat}
structure Kp (a₀:Array Keyed) (bz:SortSt) (lo:Nat) (st:SortSt):Prop where
 sb:SB a₀ st
 pe:pendingOf st=pendingOf bz
 lw:∀ k,k < lo->(arrOf st)[k]?=(arrOf bz)[k]?
theorem di' {i j:Nat}{Q:Option Bool->SortSt->Prop} (h0:AllI a₀) (B:SB a₀ st) (hi:i < a₀.size) (hj:j < a₀.size) (h:Q (some (decide (K (arrOf st) i < K (arrOf st) j))) st):wpS (model prog w) A E s (ltAt' i j) Q st:=by
 have sz:=B.size
 obtain ⟨x,ex,kx⟩:=az' (xs:=arrOf st) (i:=i) (by omega)
 obtain ⟨y,ey,ky⟩:=az' (xs:=arrOf st) (i:=j) (by omega)
 rw [kx,ky] at h
 rw [ltAt'_eq]
 refine wpS_bind (wpS_get ?_)
 refine wpS_bind (ay' ex (wpS_bind (ay' ey ?_)))
 exact fz' B.kind (B.ints h0 _ _ ex) (B.ints h0 _ _ ey) h
theorem Kp.set (k:Kp a₀ bz lo st){xs:Array Keyed} (p:xs.toList.Perm (arrOf st).toList) (l:∀ i,i < lo->xs[i]?=(arrOf st)[i]?):Kp a₀ bz lo (setArr st xs):=⟨⟨p.trans k.sb.perm,k.sb.kind,k.sb.failed⟩,k.pe,λi hi=>(l i hi).trans (k.lw i hi)⟩
theorem Kp.rev (k:Kp a₀ bz lo st){i j:Nat} (hi:lo<=i) (hj:j<=a₀.size):Kp a₀ bz lo (setArr st (mirror (arrOf st) i j ((j - i) / 2))):=by
 refine k.set (perm_iff_toList_perm.mp (mirror_perm _ _ _ _)) λr hr=>?_
 rw [getElem?_mirror_all (by rw [k.sb.size];exact hj),if_neg (by omega)]
theorem fB' {i j:Nat}{Q:Unit->SortSt->Prop} (h:Q () (setArr st (mirror (arrOf st) i j ((j - i) / 2)))):wpS (model prog w) A E s (reverseSlice' i j) Q st:=by
 rw [reverseSlice'_eq]
 exact wpS_modify h
def Up (xs:Array Keyed) (lo n:Nat):Prop:=∀ i j,i<=j->j < n->K xs (lo+i)<=K xs (lo+j)
def Dn (xs:Array Keyed) (lo n:Nat):Prop:=∀ i j,i<=j->j < n->K xs (lo+j)<=K xs (lo+i)
theorem i7' {Q:A2->SortSt->Prop} (h0:AllI a₀) (hm:lo+m<=a₀.size) (h1:1<=n) (hn:n<=m) (B:SB a₀ st) (u:Up (arrOf st) lo n) (h:∀ k,n<=k->k<=m->Up (arrOf st) lo k->(k < m->K (arrOf st) (lo+k) < K (arrOf st) (lo+k - 1))->Q (none,k) st):wpS (model prog w) A E s (forIn [n:m] ((none,n):A2) (upB lo)) Q st:=by
 refine wpS_mono (wpS_forRange (I:=λx c ag=>ag=st/\c=(none,x)/\Up (arrOf st) lo x) (Q:=λc ag=>ag=st/\∃ k,c=(none,k)/\n<=k/\k<=m/\Up (arrOf st) lo k/\(k < m->K (arrOf st) (lo+k) < K (arrOf st) (lo+k - 1))) ?_ ?_ ⟨rfl,rfl,u⟩) ?_
 ·rintro x c ag gX iK ⟨rfl,rfl,u⟩
  unfold upB
  dsimp only
  refine wpS_bind (di' h0 B (by omega) (by omega) ?_)
  dsimp only
  by_cases l:K (arrOf ag) (lo+x) < K (arrOf ag) (lo+x - 1)
  ·rw [if_pos (by simpa using l)]
   exact wpS_pure ⟨rfl,x,rfl,gX,by omega,u,λ_=>l⟩
  ·rw [if_neg (by simpa using l)]
   refine wpS_pure ⟨rfl,rfl,λi j bh hj=>?_⟩
   by_cases e:j=x
   ·subst e
    by_cases e2:i=j
    ·subst e2;exact Int.le_refl _
    ·have:=u i (j - 1) (by omega) (by omega)
     rw [show lo+(j - 1)=lo+j - 1 by omega] at this
     omega
   ·exact u i j bh (by omega)
 ·rintro c ag ⟨rfl,rfl,u⟩
  rw [Nat.max_eq_right hn] at u ⊢
  exact ⟨rfl,m,rfl,hn,le_refl _,u,λz=>by omega⟩
 ·rintro c ag ⟨rfl,k,rfl,k1,k2,k3,k4⟩
  exact h k k1 k2 k3 k4
theorem p3' {Q:Option Nat->SortSt->Prop} (h0:AllI a₀) (hm:lo+m<=a₀.size) (h1:1<=n) (hn:n<=m) (B:SB a₀ st) (u:Up (arrOf st) lo n) (h:∀ k,n<=k->k<=m->Up (arrOf st) lo k->Q (some k) st):wpS (model prog w) A E s (upL lo m n) Q st:=by
 unfold upL
 exact wpS_bind (i7' h0 hm h1 hn B u λk k1 k2 k3 _=>wpS_pure (h k k1 k2 k3))
theorem i8' {Q:Option Nat->SortSt->Prop} (h0:AllI a₀) (hm:lo+m<=a₀.size) (h1:1<=n) (hn:n<=m) (kp:Kp a₀ bz lo st) (d:Dn (arrOf st) lo n) (h:∀ k ag,1<=k->k<=m->Kp a₀ bz lo ag->Up (arrOf ag) lo k->Q (some k) ag):wpS (model prog w) A E s (endL lo m n) Q st:=by
 unfold endL
 refine wpS_bind (fB' ?_)
 have nU:=kp.rev (i:=lo) (j:=lo+n) (le_refl _) (by omega)
 have sz:=kp.sb.size
 refine p3' h0 hm h1 hn nU.sb (λi j bh hj=>?_) λk k1 k2 k3=>h k _ (by omega) k2 nU k3
 show K (mirror (arrOf st) lo (lo+n) ((lo+n - lo) / 2)) _<=K (mirror (arrOf st) lo (lo+n) ((lo+n - lo) / 2)) _
 rw [K_mirror (by omega),K_mirror (by omega),if_pos (by omega),if_pos (by omega)]
 have:=d (n - 1 - j) (n - 1 - i) (by omega) (by omega)
 rw [show lo+(n - 1 - j)=lo+(lo+n) - 1 - (lo+j) by omega,show lo+(n - 1 - i)=lo+(lo+n) - 1 - (lo+i) by omega] at this
 exact this
theorem lg' {Q:Option Nat->SortSt->Prop} (h0:AllI a₀) (hm:lo+m<=a₀.size) (hn:n+1<=m) (kp:Kp a₀ bz lo st) (d:Dn (arrOf st) lo (n+1)) (h:∀ k ag,1<=k->k<=m->Kp a₀ bz lo ag->Up (arrOf ag) lo k->Q (some k) ag):wpS (model prog w) A E s (dnL lo m n) Q st:=by
 unfold dnL
 refine wpS_bind (wpS_lift (wpAny_rule ⟨rfl,?_⟩))
 have nV:∀ {st:SortSt}{x q:Nat},Kp a₀ bz lo st->lo+x<=a₀.size->q+1<=x->(∀ i,x - (q+1)<=i->i < x->K (arrOf st) (lo+i)=K (arrOf st) (lo+x - 1))->∀ r,K (mirror (arrOf st) (lo+x - (q+1)) (lo+x) ((lo+x - (lo+x - (q+1))) / 2)) r=K (arrOf st) r:=λ{st x q} kp hx hq hh r=>by
  have sz:=kp.sb.size
  refine K_mirror_equal (by omega) (λr r1 r2=>?_) r
  have:=hh (r - lo) (by omega) (by omega)
  rw [show lo+(r - lo)=r by omega] at this
  exact this
 refine wpS_bind (wpS_mono (wpS_forRange (I:=λx c ag=>Kp a₀ bz lo ag/\∃ q,c=(none,x,q)/\q+1<=x/\x<=m/\Dn (arrOf ag) lo x/\∀ i,x - (q+1)<=i->i < x->K (arrOf ag) (lo+i)=K (arrOf ag) (lo+x - 1))
  (Q:=λc ag=>Kp a₀ bz lo ag/\∃ x q,c=(none,x,q)/\q+1<=x/\x<=m/\Dn (arrOf ag) lo x/\∀ i,x - (q+1)<=i->i < x->K (arrOf ag) (lo+i)=K (arrOf ag) (lo+x - 1)) ?_ ?_ ⟨kp,0,rfl,by omega,hn,d,λi i1 i2=>by congr 1;omega⟩) ?_)
 ·rintro x c ag gX iK ⟨kp,q,rfl,hq,fP,d,tl⟩
  have xm:x < m:=by omega
  clear gX iK hn
  unfold dnB
  dsimp only
  refine wpS_bind (di' h0 kp.sb (by omega) (by omega) ?_)
  dsimp only
  by_cases l:K (arrOf ag) (lo+x) < K (arrOf ag) (lo+x - 1)
  ·rw [if_pos (by simpa using l)]
   have go:∀ (bB:SortSt),Kp a₀ bz lo bB->(∀ r,K (arrOf bB) r=K (arrOf ag) r)->Kp a₀ bz lo bB/\∃ q',(((none,x+1,0):A3))=(none,x+1,q')/\q'+1<=x+1/\x+1<=m/\Dn (arrOf bB) lo (x+1)/\∀ i,x+1 - (q'+1)<=i->i < x+1->K (arrOf bB) (lo+i)=K (arrOf bB) (lo+(x+1) - 1):=λbB gY same=>by
    refine ⟨gY,0,rfl,by omega,by omega,λi j bh hj=>?_,λi i1 i2=>by congr 1;omega⟩
    rw [same,same]
    by_cases e:j=x
    ·subst e
     by_cases e2:i=j
     ·subst e2;exact Int.le_refl _
     ·have:=d i (j - 1) (by omega) (by omega)
      rw [show lo+(j - 1)=lo+j - 1 by omega] at this
      omega
    ·exact d i j bh (by omega)
   by_cases q0:q > 0
   ·rw [if_pos q0]
    exact wpS_bind (fB' (wpS_pure (go _ (kp.rev (by omega) (by omega)) (nV kp (by omega) hq tl))))
   ·rw [if_neg q0]
    exact wpS_pure (go _ kp λr=>rfl)
  ·rw [if_neg (by simpa using l)]
   refine wpS_bind (di' h0 kp.sb (by omega) (by omega) ?_)
   dsimp only
   by_cases l2:K (arrOf ag) (lo+x - 1) < K (arrOf ag) (lo+x)
   ·rw [if_pos (by simpa using l2)]
    exact wpS_pure ⟨kp,x,q,rfl,hq,fP,d,tl⟩
   ·rw [if_neg (by simpa using l2)]
    have e:K (arrOf ag) (lo+x)=K (arrOf ag) (lo+x - 1):=by omega
    refine wpS_pure ⟨kp,q+1,rfl,by omega,by omega,λi j bh hj=>?_,λi i1 i2=>?_⟩
    ·by_cases e1:j=x
     ·subst e1
      by_cases e2:i=j
      ·subst e2;exact Int.le_refl _
      ·have:=d i (j - 1) (by omega) (by omega)
       rw [show lo+(j - 1)=lo+j - 1 by omega] at this
       omega
     ·exact d i j bh (by omega)
    ·rw [show lo+(x+1) - 1=lo+x by omega]
     by_cases e1:i=x
     ·subst e1;rfl
     ·rw [e]
      exact tl i (by omega) (by omega)
 ·rintro c ag ⟨kp,q,rfl,hq,fP,d,tl⟩
  exact ⟨kp,_,q,rfl,hq,fP,d,tl⟩
 ·rintro c ag ⟨kp,x,q,rfl,hq,fP,d,tl⟩
  dsimp only
  by_cases q0:q > 0
  ·rw [if_pos q0]
   refine wpS_bind (fB' ?_)
   have same:=nV kp (by omega) hq tl
   refine i8' h0 hm (by omega) fP (kp.rev (by omega) (by omega)) (λi j bh hj=>?_) h
   show K (mirror (arrOf ag) _ _ _) _<=K (mirror (arrOf ag) _ _ _) _
   rw [same,same]
   exact d i j bh hj
  ·rw [if_neg q0]
   exact i8' h0 hm (by omega) fP kp d h
theorem eN' {Q:Option Nat->SortSt->Prop} (h0:AllI a₀) (hm:lo+m<=a₀.size) (h1:1<=m) (B:SB a₀ st) (h:∀ k ag,1<=k->k<=m->Kp a₀ st lo ag->Up (arrOf ag) lo k->Q (some k) ag):wpS (model prog w) A E s (countRun' lo m) Q st:=by
 have kp:Kp a₀ st lo st:=⟨B,rfl,λ_ _=>rfl⟩
 have sz:=B.size
 rw [mD']
 refine wpS_bind (i7' h0 hm (le_refl 1) h1 B (λi j bh hj=>by rw [show i=j by omega];exact Int.le_refl _) λk k1 k2 k3 k4=>?_)
 dsimp only
 by_cases e:k=m
 ·rw [if_pos (by simpa using e)]
  exact wpS_pure (h k st k1 k2 kp k3)
 ·rw [if_neg (by simpa using e)]
  have k5:=k4 (by omega)
  by_cases e1:k > 1
  ·rw [if_pos e1]
   refine wpS_bind (di' h0 B (by omega) (by omega) ?_)
   dsimp only
   by_cases l:K (arrOf st) lo < K (arrOf st) (lo+k - 1)
   ·rw [if_pos (by simpa using l)]
    exact wpS_pure (h k st k1 k2 kp k3)
   ·rw [if_neg (by simpa using l)]
    refine wpS_bind (fB' ?_)
    have all:∀ i,i < k->K (arrOf st) (lo+i)=K (arrOf st) (lo+k - 1):=λi hi=>by
     have a1:=k3 0 i (by omega) hi
     have a2:=k3 i (k - 1) (by omega) (by omega)
     rw [show lo+(k - 1)=lo+k - 1 by omega] at a2
     rw [Nat.add_zero] at a1
     omega
    have same:∀ r,K (mirror (arrOf st) lo (lo+k) ((lo+k - lo) / 2)) r=K (arrOf st) r:=λr=>by
     refine K_mirror_equal (by omega) (λr r1 r2=>?_) r
     have:=all (r - lo) (by omega)
     rw [show lo+(r - lo)=r by omega] at this
     exact this
    refine lg' h0 hm (by omega) (kp.rev (le_refl _) (by omega)) (λi j bh hj=>?_) h
    show K (mirror (arrOf st) _ _ _) _<=K (mirror (arrOf st) _ _ _) _
    rw [same,same]
    by_cases ej:j=k
    ·subst ej
     by_cases ei:i=j
     ·subst ei;exact Int.le_refl _
     ·rw [all i (by omega)];omega
    ·rw [all i (by omega),all j (by omega)]
     exact Int.le_refl _
  ·rw [if_neg e1]
   have:k=1:=by omega
   subst this
   refine lg' h0 hm (by omega) kp (λi j bh hj=>?_) h
   by_cases ej:i=j
   ·subst ej;exact Int.le_refl _
   ·have hi:i=0:=by omega
    have hj:j=1:=by omega
    subst hi hj
    rw [show lo+1 - 1=lo+0 by omega] at k5
    omega
theorem lh' {k:Nat}{Q:Bool->SortSt->Prop} (h0:AllI a₀) (hm:lo+m<=a₀.size) (hk:k<=m) (kp:Kp a₀ bz lo st) (u:Up (arrOf st) lo k) (h:∀ ag,Kp a₀ bz lo ag->Up (arrOf ag) lo m->Q true ag):wpS (model prog w) A E s (binarySort' lo m k) Q st:=by
 rw [binarySort'_eq]
 refine wpS_bind (wpS_mono (wpS_forRange (I:=λx c ag=>c=(none,())/\Kp a₀ bz lo ag/\Up (arrOf ag) lo (min x m)) (Q:=λc ag=>c=(none,())/\Kp a₀ bz lo ag/\Up (arrOf ag) lo m) ?_ ?_ ⟨rfl,kp,?_⟩) ?_)
 ·rintro x c ag gX iK ⟨rfl,kp,u⟩
  have xm:x < m:=by omega
  rw [min_eq_left (le_of_lt xm)] at u
  have sz:=kp.sb.size
  have lx:lo+x < (arrOf ag).size:=by omega
  have la:lo+x < a₀.size:=by omega
  clear gX iK hk hm sz
  refine wpS_bind (wpS_mono (wpS_forRange (I:=λy c aN=>aN=ag/\∃ l r,c=(none,l,r)/\l<=r/\r<=x/\r - l<=x - y/\(∀ i,i < l->K (arrOf ag) (lo+i)<=K (arrOf ag) (lo+x))/\∀ i,r<=i->i < x->K (arrOf ag) (lo+x) < K (arrOf ag) (lo+i))
   (Q:=λc aN=>aN=ag/\∃ l r,c=(none,l,r)/\l<=x/\(∀ i,i < l->K (arrOf ag) (lo+i)<=K (arrOf ag) (lo+x))/\∀ i,l<=i->i < x->K (arrOf ag) (lo+x) < K (arrOf ag) (lo+i)) ?_ ?_ ⟨rfl,0,x,rfl,by omega,by omega,by omega,λi hi=>by omega,λi i1 i2=>by omega⟩) ?_)
  ·rintro y c aN - hy ⟨rfl,l,r,rfl,h1,h2,h3,h4,h5⟩
   dsimp only
   by_cases ge:l>=r
   ·rw [if_pos ge]
    have:l=r:=by omega
    subst this
    exact wpS_pure ⟨rfl,l,l,rfl,h2,h4,h5⟩
   ·rw [if_neg ge]
    refine wpS_bind (di' h0 kp.sb (by omega) (by omega) ?_)
    dsimp only
    by_cases less:K (arrOf aN) (lo+x) < K (arrOf aN) (lo+(l+r) / 2)
    ·rw [if_pos (by simpa using less)]
     refine wpS_pure ⟨rfl,l,(l+r) / 2,rfl,by omega,by omega,by omega,h4,λi i1 i2=>?_⟩
     have:=u ((l+r) / 2) i i1 (by omega)
     omega
    ·rw [if_neg (by simpa using less)]
     refine wpS_pure ⟨rfl,(l+r) / 2+1,r,rfl,by omega,by omega,by omega,λi i1=>?_,h5⟩
     have:=u i ((l+r) / 2) (by omega) (by omega)
     omega
  ·rintro c aN ⟨rfl,l,r,rfl,h1,h2,h3,h4,h5⟩
   have:l=r:=by omega
   subst this
   exact ⟨rfl,l,l,rfl,h2,h4,h5⟩
  ·rintro c aN ⟨rfl,l,r,rfl,h1,h4,h5⟩
   show wpS _ _ _ _ (do moveDown' (lo+x) (lo+l);pure (ForInStep.yield (none,()))) _ _
   rw [moveDown'_eq]
   refine wpS_bind (wpS_modify (wpS_pure ⟨rfl,kp.set (perm_iff_toList_perm.mp (bubble_perm _ _ _)) (λi hi=>?_),?_⟩))
   ·rw [getElem?_bubble (by omega) _ (by omega),if_neg (by omega),if_neg (by omega)]
   ·rw [min_eq_left (by omega)]
    intro i j bh hj
    show K (bubble (arrOf aN) (lo+x) (lo+x - (lo+l))) (lo+i)<=K (bubble (arrOf aN) (lo+x) (lo+x - (lo+l))) (lo+j)
    have g:∀ q,q < x+1->K (bubble (arrOf aN) (lo+x) (lo+x - (lo+l))) (lo+q)=if q=l then K (arrOf aN) (lo+x) else if l < q then K (arrOf aN) (lo+(q - 1)) else K (arrOf aN) (lo+q):=λq hq=>by
     rw [K_bubble (by omega) (by omega)]
     by_cases e1:q=l
     ·rw [if_pos (by omega),if_pos e1]
     ·rw [if_neg (by omega),if_neg e1]
      by_cases e2:l < q
      ·rw [if_pos (by omega),if_pos e2]
       congr 1
       omega
      ·rw [if_neg (by omega),if_neg e2]
    rw [g i (by omega),g j hj]
    by_cases i1:i=l<;>by_cases j1:j=l
    ·rw [if_pos i1,if_pos j1];exact Int.le_refl _
    ·rw [if_pos i1,if_neg j1,if_pos (by omega)]
     exact Int.le_of_lt (h5 _ (by omega) (by omega))
    ·rw [if_neg i1,if_pos j1,if_neg (by omega)]
     exact h4 _ (by omega)
    ·rw [if_neg i1,if_neg j1]
     by_cases i2:l < i<;>by_cases j2:l < j
     ·rw [if_pos i2,if_pos j2];exact u _ _ (by omega) (by omega)
     ·omega
     ·rw [if_neg i2,if_pos j2];exact u _ _ (by omega) (by omega)
     ·rw [if_neg i2,if_neg j2];exact u _ _ (by omega) (by omega)
 ·rintro c ag ⟨rfl,kp,u⟩
  rw [show min (max (max k 1) m) m=m by omega] at u
  exact ⟨rfl,kp,u⟩
 ·intro i j bh hj
  by_cases z:k=0
  ·rw [show i=j by omega];exact Int.le_refl _
  ·exact u i j bh (by omega)
 ·rintro c ag ⟨rfl,kp,u⟩
  exact wpS_pure (h ag kp u)
end
abbrev Pd:=Nat×Nat×Nat
def Rs (L:List Keyed):Nat->List Pd->Nat->Prop
 | s,[],e=>s=e
 | s,r::rs,e=>r.1=s/\1<=r.2.1/\Run L s (s+r.2.1)/\Rs L (s+r.2.1) rs e
theorem Rs.le {L:List Keyed}:∀ {rs:List Pd}{s e:Nat},Rs L s rs e->s+rs.length<=e
 | [],s,e,h=>by rw [Rs] at h;simp;omega
 | r::rs,s,e,h=>by
  obtain ⟨_,h1,_,h2⟩:=h
  have:=Rs.le h2
  simp
  omega
theorem Run.same {L L':List Keyed}{i j e:Nat} (h:L'.take e=L.take e) (hj:j<=e) (r:Run L i j):Run L' i j:=by
 unfold Run at *
 have t:∀ l:List Keyed,l.take j=(l.take e).take j:=λl=>by rw [take_take,min_eq_left hj]
 rw [t L',h,← t L]
 exact r
theorem Run.same' {L L':List Keyed}{i j q:Nat} (h:L'.drop q=L.drop q) (hi:q<=i) (r:Run L i j):Run L' i j:=by
 unfold Run at *
 rw [drop_take] at r ⊢
 have t:∀ l:List Keyed,l.drop i=(l.drop q).drop (i - q):=λl=>by rw [drop_drop];congr 1;omega
 rw [t L',h,← t L]
 exact r
theorem Rs.same {L L':List Keyed}:∀ {rs:List Pd}{s e:Nat},L'.take e=L.take e->Rs L s rs e->Rs L' s rs e
 | [],s,e,_,h=>h
 | r::rs,s,e,t,⟨h1,h2,h3,h4⟩=>⟨h1,h2,h3.same t (by have:=h4.le;omega),Rs.same t h4⟩
theorem Rs.same' {L L':List Keyed}{q:Nat} (t:L'.drop q=L.drop q):∀ {rs:List Pd}{s e:Nat},q<=s->Rs L s rs e->Rs L' s rs e
 | [],s,e,_,h=>h
 | r::rs,s,e,hq,⟨h1,h2,h3,h4⟩=>⟨h1,h2,h3.same' t hq,Rs.same' t (by omega) h4⟩
theorem Rs.snoc {L:List Keyed}:∀ {rs:List Pd}{s e n p:Nat},Rs L s rs e->1<=n->Run L e (e+n)->Rs L s (rs++[(e,n,p)]) (e+n)
 | [],s,e,n,p,h,h1,h2=>by
  rw [Rs] at h
  subst h
  exact ⟨rfl,h1,h2,rfl⟩
 | r::rs,s,e,n,p,⟨a1,a2,a3,a4⟩,h1,h2=>⟨a1,a2,a3,Rs.snoc a4 h1 h2⟩
theorem Rs.at {L:List Keyed}{u v:Pd}{l2:List Pd}:∀ {l1:List Pd}{s e:Nat},Rs L s (l1++u::v::l2) e->s<=u.1/\1<=u.2.1/\1<=v.2.1/\v.1=u.1+u.2.1/\v.1+v.2.1<=e/\Run L u.1 v.1/\Run L v.1 (v.1+v.2.1)
 | [],s,e,⟨a1,a2,a3,b1,b2,b3,b4⟩=>by
  have:=b4.le
  subst a1
  refine ⟨le_refl _,a2,b2,b1,by omega,?_,?_⟩
  ·rw [b1];exact a3
  ·rw [b1];exact b3
 | r::l1,s,e,⟨a1,a2,a3,a4⟩=>by
  have:=Rs.at a4
  exact ⟨by omega,this.2⟩
theorem Rs.join {L L':List Keyed}{u v:Pd}{l2:List Pd} (t:L'.take u.1=L.take u.1) (d:L'.drop (v.1+v.2.1)=L.drop (v.1+v.2.1)) (r:Run L' u.1 (v.1+v.2.1)):∀ {l1:List Pd}{s e:Nat},Rs L s (l1++u::v::l2) e->Rs L' s (l1++(u.1,u.2.1+v.2.1,u.2.2)::l2) e
 | [],s,e,⟨a1,a2,a3,b1,b2,b3,b4⟩=>by
  subst a1
  have e1:u.1+(u.2.1+v.2.1)=v.1+v.2.1:=by omega
  refine ⟨rfl,by show 1<=u.2.1+v.2.1;omega,?_,?_⟩
  ·show Run L' u.1 (u.1+(u.2.1+v.2.1))
   rw [e1];exact r
  ·show Rs L' (u.1+(u.2.1+v.2.1)) l2 e
   rw [e1]
   refine Rs.same' d (le_refl _) ?_
   rw [b1];exact b4
 | q::l1,s,e,⟨a1,a2,a3,a4⟩=>by
  have:=(Rs.at a4).1
  exact ⟨a1,a2,a3.same t (by omega),Rs.join t d r a4⟩
theorem Rs.power {L:List Keyed}{u:Pd}{p:Nat}{l2:List Pd}:∀ {l1:List Pd}{s e:Nat},Rs L s (l1++u::l2) e->Rs L s (l1++(u.1,u.2.1,p)::l2) e
 | [],s,e,⟨a1,a2,a3,a4⟩=>⟨a1,a2,a3,a4⟩
 | q::l1,s,e,⟨a1,a2,a3,a4⟩=>⟨a1,a2,a3,Rs.power a4⟩
theorem mE' (l:List Pd) (v:Pd) (f:Pd->Pd):(l++[v]).modify l.length f=l++[f v]:=by
 induction l with
 | nil=>rfl
 | cons x l ih=>rw [List.cons_append,length_cons,List.modify_succ_cons,ih];rfl
theorem p4' {c:Prop} [Decidable c]{a b n:Nat} (h1:a+1 < n) (h2:b+1 < n):(if c then a else b)+1 < n:=by
 split<;>assumption
theorem li' {l:List Pd}{i:Nat} (h:i+1 < l.length):∃ l1 u v l2,l=l1++u::v::l2/\l1.length=i:=by
 refine ⟨l.take i,l[i],l[i+1],l.drop (i+2),?_,by rw [length_take];omega⟩
 rw [← drop_eq_getElem_cons,← drop_eq_getElem_cons,take_append_drop]
abbrev E1:=Option PUnit×PUnit
abbrev E2:=Option PUnit×Nat
noncomputable def colB (pw:Nat) (_:Nat) (c:E1):StateT SortSt Sem (ForInStep E1):=do
 let st ← get
 match (if (pendingOf st).size > 1 then (pendingOf st)[(pendingOf st).size - 2]? else none) with
 | some u=>if u.2.2<=pw then pure (.done (none,⟨⟩)) else do
  let ok ← mergeAt' ((pendingOf st).size - 2)
  if (!ok)=true then pure (.done (some ⟨⟩,⟨⟩)) else pure (.yield (none,⟨⟩))
 | _=>pure (.done (none,⟨⟩))
noncomputable def addR (lo n:Nat):StateT SortSt Sem (ForInStep E2):=do
 modify λst=>setPending st ((pendingOf st).push (lo,n,0))
 pure (.yield (none,lo+n))
noncomputable def nextR (size lo n:Nat):StateT SortSt Sem (ForInStep E2):=do
 let st ← get
 match (pendingOf st).back? with
 | some u=>do
  let c ← forIn [0:size] ((none,⟨⟩):E1) (colB (power' size (2*u.1+u.2.1) (2*u.1+u.2.1+u.2.1+n) size))
  match c.1 with
  | some r=>pure (.done (some r,lo))
  | none=>do
   modify λst=>setPending st ((pendingOf st).modify ((pendingOf st).size - 1) λv=>(v.1,v.2.1,power' size (2*u.1+u.2.1) (2*u.1+u.2.1+u.2.1+n) size))
   addR lo n
 | _=>addR lo n
noncomputable def runB (size mr:Nat) (_:Nat) (c:E2):StateT SortSt Sem (ForInStep E2) :=
 if c.2>=size then pure (.done (none,c.2)) else do
  match ← countRun' c.2 (size - c.2) with
  | some f =>
   if f < mr then do
    rule "list.sort.binary-insertion"
    let ok ← binarySort' c.2 (min (size - c.2) mr) f
    if (!ok)=true then pure (.done (some ⟨⟩,c.2)) else nextR size c.2 (min (size - c.2) mr)
   else nextR size c.2 f
  | _=>pure (.done (some ⟨⟩,c.2))
noncomputable def which (p:Array Pd):Nat:=if (if p.size - 2 > 0 then p[p.size - 2 - 1]?.map (·.2.1) else none).any (· < (p[p.size - 2+1]?.elim 0 (·.2.1)))=true then p.size - 2 - 1 else p.size - 2
noncomputable def lastB (_:Nat) (c:E1):StateT SortSt Sem (ForInStep E1):=do
 let st ← get
 if (pendingOf st).size<=1 then pure (.done (none,⟨⟩)) else do
  let ok ← mergeAt' (which (pendingOf st))
  if (!ok)=true then pure (.done (some ⟨⟩,⟨⟩)) else pure (.yield (none,⟨⟩))
theorem ov':sortRuns'=(do
 let st ← get
 let c ← forIn [0:(arrOf st).size] ((none,0):E2) (runB (arrOf st).size (minRun' (arrOf st).size (arrOf st).size 0))
 match c.1 with
 | some r=>pure r
 | none=>do
  let c ← forIn [0:(arrOf st).size] ((none,⟨⟩):E1) lastB
  match c.1 with
  | some r=>pure r
  | none=>pure ⟨⟩):=by kernel_rfl
section
variable {prog:Program}{w:World}{A:Around}{E:Value->Shared->Prop}{s:Shared}{st:SortSt}{a₀:Array Keyed}
theorem hP' {i e:Nat}{Q:Bool->SortSt->Prop} (B:SB a₀ st) (h0:AllI a₀) (r:Rs (arrOf st).toList 0 (pendingOf st).toList e) (he:e<=a₀.size) (hi:i+1 < (pendingOf st).size)
  (h:∀ ag,SB a₀ ag->Rs (arrOf ag).toList 0 (pendingOf ag).toList e->(pendingOf ag).size+1=(pendingOf st).size->(arrOf ag).toList.drop e=(arrOf st).toList.drop e->Q true ag):wpS (model prog w) A E s (mergeAt' i) Q st:=by
 obtain ⟨l1,u,v,l2,e1,e2⟩:=li' (l:=(pendingOf st).toList) (i:=i) (by simpa using hi)
 rw [e1] at r
 obtain ⟨_,a1,a2,a3,a4,a5,a6⟩:=r.at
 have g1:(pendingOf st)[i]?=some u:=by
  rw [← getElem?_toList,e1,getElem?_append_right (by omega),e2,Nat.sub_self]
  rfl
 have g2:(pendingOf st)[i+1]?=some v:=by
  rw [← getElem?_toList,e1,getElem?_append_right (by omega),e2,show i+1 - i=1 by omega]
  rfl
 refine jR' (sa:=u.1) (na:=u.2.1) (pw:=u.2.2) (sb:=v.1) (nb:=v.2.1) (pw':=v.2.2) B h0 g1 g2 a3 a1 a2 (by omega) a5 a6 λag B' pe tk dr rn=>?_
 have pl:(pendingOf ag).toList=l1++(u.1,u.2.1+v.2.1,u.2.2)::l2:=by
  rw [pe,Array.toList_eraseIdxIfInBounds,Array.toList_setIfInBounds,e1,List.set_append,if_neg (by omega),e2,Nat.sub_self]
  rw [List.set_cons_zero,List.eraseIdx_append_of_length_le (by omega),e2,show i+1 - i=1 by omega]
  rfl
 refine h ag B' ?_ ?_ ?_
 ·rw [pl]
  exact r.join tk dr rn
 ·have q1:=congrArg length pl
  have q2:=congrArg length e1
  simp at q1 q2
  omega
 ·have t:∀ l:List Keyed,l.drop e=(l.drop (v.1+v.2.1)).drop (e - (v.1+v.2.1)):=λl=>by rw [drop_drop];congr 1;omega
  rw [t,dr,← t]
theorem lj' {xs:Array Keyed}{lo n:Nat} (h:Up xs lo n) (hn:lo+n<=xs.size):Run xs.toList lo (lo+n):=Run.of hn λp q h1 h2 h3=>by
 have:=h (p - lo) (q - lo) (by omega) (by omega)
 rw [show lo+(p - lo)=p by omega,show lo+(q - lo)=q by omega] at this
 exact this
theorem iu' {xs ys:Array Keyed}{lo:Nat} (h:∀ k,k < lo->xs[k]?=ys[k]?):xs.toList.take lo=ys.toList.take lo:=by
 apply List.ext_getElem?
 intro k
 rw [List.getElem?_take,List.getElem?_take]
 split
 ·rename_i hk
  rw [getElem?_toList,getElem?_toList]
  exact h k hk
 ·rfl
theorem mF' {lo n x:Nat}{Q:ForInStep E2->SortSt->Prop} (h0:AllI a₀) (B:SB a₀ st) (r:Rs (arrOf st).toList 0 (pendingOf st).toList lo) (h1:1<=n) (h2:lo+n<=a₀.size) (rn:Run (arrOf st).toList lo (lo+n)) (h:∀ ag,SB a₀ ag->Rs (arrOf ag).toList 0 (pendingOf ag).toList (lo+n)->Q (.yield (none,lo+n)) ag) :
  wpS (model prog w) A E s (nextR a₀.size lo n) Q st:=by
 have nW:∀ ag,SB a₀ ag->Rs (arrOf ag).toList 0 (pendingOf ag).toList lo->Run (arrOf ag).toList lo (lo+n)->wpS (model prog w) A E s (addR lo n) Q ag:=λag B' r' eQ=>by
  unfold addR
  refine wpS_bind (wpS_modify (wpS_pure (h _ ⟨B'.perm,B'.kind,B'.failed⟩ ?_)))
  show Rs (arrOf ag).toList 0 ((pendingOf ag).push (lo,n,0)).toList (lo+n)
  rw [toList_push]
  exact r'.snoc h1 eQ
 unfold nextR
 refine wpS_bind (wpS_get ?_)
 cases eb:(pendingOf st).back? with
 | none=>exact nW st B r rn
 | some u =>
  dsimp only
  generalize power' a₀.size (2*u.1+u.2.1) (2*u.1+u.2.1+u.2.1+n) a₀.size=pw
  have ps:1<=(pendingOf st).size:=by
   rcases Nat.eq_zero_or_pos (pendingOf st).size with z | z
   ·rw [Array.back?_eq_getElem?,getElem?_eq_none (by omega)] at eb;cases eb
   ·exact z
  refine wpS_bind (wpS_mono (wpS_forRange (I:=λx c ag=>c=(none,⟨⟩)/\SB a₀ ag/\Rs (arrOf ag).toList 0 (pendingOf ag).toList lo/\Run (arrOf ag).toList lo (lo+n)/\1<=(pendingOf ag).size)
   (Q:=λc ag=>c=(none,⟨⟩)/\SB a₀ ag/\Rs (arrOf ag).toList 0 (pendingOf ag).toList lo/\Run (arrOf ag).toList lo (lo+n)/\1<=(pendingOf ag).size) ?_ (λ_ _ z=>z) ⟨rfl,B,r,rn,ps⟩) ?_)
  ·rintro x c ag - hx ⟨rfl,B',r',eQ,dZ⟩
   unfold colB
   refine wpS_bind (wpS_get ?_)
   split
   ·rename_i v ev
    split
    ·exact wpS_pure ⟨rfl,B',r',eQ,dZ⟩
    ·have gt:(pendingOf ag).size > 1:=by
      rcases lt_or_ge 1 (pendingOf ag).size with z | z
      ·exact z
      ·rw [if_neg (by omega)] at ev;cases ev
     refine wpS_bind (hP' B' h0 r' (by omega) (by omega) λbB B2 r2 z2 d2=>?_)
     rw [if_neg (by decide)]
     exact wpS_pure ⟨rfl,B2,r2,eQ.same' d2 (le_refl _),by omega⟩
   ·exact wpS_pure ⟨rfl,B',r',eQ,dZ⟩
  ·rintro c ag ⟨rfl,B',r',eQ,dZ⟩
   dsimp only
   refine wpS_bind (wpS_modify (nW _ ⟨B'.perm,B'.kind,B'.failed⟩ ?_ eQ))
   show Rs (arrOf ag).toList 0 ((pendingOf ag).modify ((pendingOf ag).size - 1) λv=>(v.1,v.2.1,pw)).toList lo
   obtain ⟨l1,v,ev⟩:∃ l1 v,(pendingOf ag).toList=l1++[v]:=⟨_,_,(List.dropLast_concat_getLast (by intro z;have q:(pendingOf ag).toList.length=0:=(by rw [z];rfl);rw [length_toList] at q;omega)).symm⟩
   have ln:l1.length=(pendingOf ag).size - 1:=by
    have:=congrArg length ev
    simp at this
    omega
   have e3:((pendingOf ag).modify ((pendingOf ag).size - 1) λv=>(v.1,v.2.1,pw)).toList=l1++[(v.1,v.2.1,pw)]:=by
    rw [Array.toList_modify,ev,← ln]
    exact mE' l1 v _
   rw [e3]
   rw [ev] at r'
   exact r'.power
theorem qV' {Q:Unit->SortSt->Prop} (h0:AllI a₀) (B:SB a₀ st) (pe:pendingOf st=#[]) (h2:2<=a₀.size) (h:∀ ag,SB a₀ ag->SL (arrOf ag).toList->Q () ag):wpS (model prog w) A E s sortRuns' Q st:=by
 rw [ov']
 refine wpS_bind (wpS_get ?_)
 rw [B.size]
 generalize minRun' a₀.size a₀.size 0=mr
 refine wpS_bind (wpS_mono (wpS_forRange (I:=λx c ag=>∃ lo,c=(none,lo)/\x<=lo/\lo<=a₀.size/\SB a₀ ag/\Rs (arrOf ag).toList 0 (pendingOf ag).toList lo)
  (Q:=λc ag=>c=(none,a₀.size)/\SB a₀ ag/\Rs (arrOf ag).toList 0 (pendingOf ag).toList a₀.size) ?_ ?_ ⟨0,rfl,by omega,by omega,B,by rw [pe];exact rfl⟩) ?_)
 ·rintro x c ag - hx ⟨lo,rfl,h3,h4,B,r⟩
  unfold runB
  dsimp only
  by_cases ge:lo>=a₀.size
  ·rw [if_pos ge]
   have:lo=a₀.size:=by omega
   subst this
   exact wpS_pure ⟨rfl,B,r⟩
  ·rw [if_neg ge]
   refine wpS_bind (eN' h0 (by omega) (by omega) B λf bB f1 f2 kp u=>?_)
   dsimp only
   have go:∀ n cD,1<=n->lo+n<=a₀.size->Kp a₀ ag lo cD->Up (arrOf cD) lo n->wpS (model prog w) A E s (nextR a₀.size lo n) (λr aN=>match r with
     | .done c=>c=(none,a₀.size)/\SB a₀ aN/\Rs (arrOf aN).toList 0 (pendingOf aN).toList a₀.size
     | .yield c=>∃ lo,c=(none,lo)/\x+1<=lo/\lo<=a₀.size/\SB a₀ aN/\Rs (arrOf aN).toList 0 (pendingOf aN).toList lo) cD:=λn cD n1 n2 kp u =>
    mF' (x:=x) h0 kp.sb (by rw [kp.pe];exact r.same (iu' kp.lw)) n1 n2 (lj' u (by rw [kp.sb.size];exact n2)) λvy B4 r4=>⟨lo+n,rfl,by omega,n2,B4,r4⟩
   by_cases lt:f < mr
   ·rw [if_pos lt]
    refine wpS_bind (wpS_lift (wpAny_rule ⟨rfl,?_⟩))
    refine wpS_bind (lh' h0 (by omega) (by omega) kp u λcD rA u3=>?_)
    rw [if_neg (by decide)]
    exact wpS_mono (go _ _ (by omega) (by omega) rA u3) λr aN z=>by cases r<;>exact z
   ·rw [if_neg lt]
    exact wpS_mono (go _ _ f1 (by omega) kp u) λr aN z=>by cases r<;>exact z
 ·rintro c ag ⟨lo,rfl,h3,h4,B,r⟩
  have:lo=a₀.size:=by omega
  subst this
  exact ⟨rfl,B,r⟩
 ·rintro c ag ⟨rfl,B,r⟩
  dsimp only
  have le:=r.le
  refine wpS_bind (wpS_mono (wpS_forRange (I:=λx c ag=>c=(none,⟨⟩)/\SB a₀ ag/\Rs (arrOf ag).toList 0 (pendingOf ag).toList a₀.size/\(pendingOf ag).size<=max 1 (a₀.size - x))
   (Q:=λc ag=>c=(none,⟨⟩)/\SB a₀ ag/\Rs (arrOf ag).toList 0 (pendingOf ag).toList a₀.size/\(pendingOf ag).size<=1) ?_ ?_ ⟨rfl,B,r,by simp at le;omega⟩) ?_)
  ·rintro x c ag - hx ⟨rfl,B',r',z'⟩
   unfold lastB
   refine wpS_bind (wpS_get ?_)
   by_cases one:(pendingOf ag).size<=1
   ·rw [if_pos one]
    exact wpS_pure ⟨rfl,B',r',one⟩
   ·rw [if_neg one]
    have hw:which (pendingOf ag)+1 < (pendingOf ag).size:=by
     unfold which
     exact p4' (by omega) (by omega)
    refine wpS_bind (hP' B' h0 r' (le_refl _) hw λbB B2 r2 z2 d2=>?_)
    rw [if_neg (by decide)]
    exact wpS_pure ⟨rfl,B2,r2,by omega⟩
  ·rintro c ag ⟨rfl,B',r',z'⟩
   exact ⟨rfl,B',r',by omega⟩
  ·rintro c ag ⟨rfl,B',r',z'⟩
   refine wpS_pure (h ag B' ?_)
   have ln:(pendingOf ag).toList.length<=1:=by simpa using z'
   have sz:=B'.size
   cases e:(pendingOf ag).toList with
   | nil =>
    rw [e,Rs] at r'
    omega
   | cons u us =>
    cases us with
    | cons v vs=>rw [e] at ln;simp at ln
    | nil =>
     rw [e] at r'
     obtain ⟨a1,a2,a3,a4⟩:=r'
     rw [Rs] at a4
     rw [a4] at a3
     unfold Run at a3
     rw [drop_zero,take_of_length_le (by simp;omega)] at a3
     exact a3
end
end TS
namespace DL
open PySem PySem.W PySem.Spec PyProof.Rows L2 PySem.SetTable
def IE (es:Array (Int×Value)):Prop:=∀ e∈es,∃ j t,e=(hashInt j,Value.int j t)
theorem gy' {t:SetTable}{es:Array (Int×Value)} (T:TabOk t es){h:Int}{K:Nat} (hK:sl t.mask h K∉t.place) (hk:∀ k,k < K->sl t.mask h k∈t.place):∀ (f k:Nat),k<=K->K - k < f →
  probe.go t (λ_=>h+1) h f (pth t.mask h k)=some (.empty (sl t.mask h K) none)
 | 0,k,h1,h2=>by omega
 | f+1,k,h1,h2=>by
  by_cases z:k=K
  ·subst z
   rw [probe.go,show (pth t.mask h k).j=sl t.mask h k from rfl,kX' T.ris T.nd hK,gs']
  ·obtain ⟨i,hi,e⟩:=k2' (hk k (by omega))
   have st:t.slot (pth t.mask h k).j=.live i:=by
    rw [show (pth t.mask h k).j=t.place[i] from e.symm]
    exact kW' T.ris hi
   rw [probe.go,st]
   dsimp only
   have ne:¬ ((h+1 == h)=true):=by simp;omega
   rw [if_neg ne,mx']
   exact gy' T hK hk f (k+1) (by omega) (by omega)
section
variable {prog:Program}{w:World}{A:Around}{E:Value->Shared->Prop}{s:Shared}
theorem IE.elems {es:Array (Int×Value)} (h:IE es):ElemsOf (intKind prog w) es.toList:=λe he=>by
 obtain ⟨j,t,rfl⟩:=h e (by simpa using he)
 exact ⟨⟨j,by simp [intKind,Value.isInt],rfl⟩,rfl⟩
theorem ow' {a:Addr}{led:Bool}{es:Array (Int×Value)}{i:Int}{tk:Nat}{Q:Bool->Shared->Prop} (S:SetAt s.heap a led es) (ie:IE es) (few:(∀ e∈es,∀ tk,e.2≠Value.int i tk)->es.size<=299)
  (old:(∃ e∈es,∃ tk,e.2=Value.int i tk)->Q false s)
  (new:(∀ e∈es,∀ tk,e.2≠Value.int i tk)->∀ h' es',SetAt h' a led es'->(∀ e,e∈es'↔e=(hashInt i,Value.int i tk)\/e∈es)->es'.size=es.size+1->KeptBut a s.heap h'->Q true { s with heap:=h' }) :
  wpAny (model prog w) A (setAddHashed a (.int i tk) (hashInt i)) Q E s:=by
 have line:600<=sizeLine:=by rw [sizeLine_eq];decide
 obtain ⟨o,ep,t,ho,hc,iL,T,tl⟩:=S
 have le:es.size<=300:=by rw [← T.sz];exact T.few.1
 obtain ⟨h,eh⟩:∃ h,h=hashInt i:=⟨_,rfl⟩
 obtain ⟨K,k1,k2,k3⟩:=T.free h
 have fits:=T.fits
 unfold setAddHashed
 refine wpAny_holding ?_
 unfold setAddHashedIn
 refine wpAny_bind (wpAny_setState_of ho iL fits ?_)
 dsimp only
 rw [byScan_of (knd:=intKind prog w) rfl (Nat.lt_of_le_of_lt le (by decide)) ie.elems,if_pos rfl]
 unfold setAddByScan
 refine wpAny_bind (wpAny_bind (wpAny_rule ?_))
 refine wpAny_bind (wpAny_setScan_of (knd:=intKind prog w) (k:=i) (by simp [intKind,Value.isInt]) ho iL fits ie.elems ?_)
 cases hr:List.findIdx? (λe:Int×Value=>(intKind prog w).is i e.2) es.toList with
 | some j =>
  dsimp only
  obtain ⟨hj,rC,_⟩:=List.findIdx?_eq_some_iff_getElem.mp hr
  refine wpAny_pure (wpAny_pure (old ⟨es.toList[j],by simpa using getElem_mem hj,?_⟩))
  exact Value.isInt_shape rC
 | none =>
  dsimp only
  have aI:∀ e∈es,∀ tk,e.2≠Value.int i tk:=λe he tk z=>by
   have:=List.findIdx?_eq_none_iff.mp hr e (by simpa using he)
   rw [z] at this
   simp [intKind,Value.isInt] at this
  have few:=few aI
  obtain ⟨p1,p2,p3,p4,p5,p6,p7,p8,p9,kB,nX⟩:=pV' T (h:=h) (x:=.int i tk) k2 k3
  have fs:t.freeSlot h=some (sl t.mask h K,false):=by
   unfold freeSlot probe
   rw [kY',gy' T k2 k3 _ 0 (zero_le _) (by unfold turns;omega)]
   rfl
  obtain ⟨q,nY⟩:∃ q,q=t.put (sl t.mask h K):=⟨_,rfl⟩
  rw [← nY] at p1 p2 p3 p4 p5 p6 p7 p8 p9 kB nX
  have bV:(insertAt es q.2 (h,Value.int i tk)).size=es.size+1:=eQ' kB _
  have fill:q.1.fill=es.size+1:=by
   unfold SetTable.fill
   rw [p1,p9,T.sz]
   rfl
  have gZ:q.1.fits (insertAt es q.2 (h,Value.int i tk)).size=true:=by
   unfold SetTable.fits
   rw [fill,bV,p5,p9,T.sz]
   have h1:=T.few.2
   have h2:=T.sz
   simp
   omega
  have ln:layNew t es h (.int i tk)=(insertAt es q.2 (h,Value.int i tk),q.1,false,false):=by
   unfold layNew
   rw [fs]
   dsimp only
   rw [← nY,gZ,SetTable.orStandIn,gZ,if_pos rfl]
   rfl
  rw [← eh,ln]
  dsimp only
  refine wpAny_bind (wpAny_of_eq (a:=()) rfl ?_)
  rw [p6,T.pl,if_pos rfl]
  refine wpAny_bind (wpAny_of_eq (a:=true) rfl ?_)
  rw [if_pos rfl]
  refine wpAny_bind (wpAny_storeSet_of ho iL ?_ (by rw [bV];omega))
  have g1:=i1' (es':=insertAt es q.2 (h,Value.int i tk)) (t':=q.1) ho iL
  have cx:KeptBut a s.heap (s.heap.update a (putSet (insertAt es q.2 (h,Value.int i tk)) q.1)):=λc u ne e=>(get?_update_other _ _ (Ne.symm ne)).trans e
  have dD:∀ e,e∈insertAt es q.2 (h,Value.int i tk)↔e=(hashInt i,.int i tk)\/e∈es:=λe=>by rw [← eh];exact iZ' kB _ e
  obtain ⟨h1,rD⟩:∃ h1,h1=s.heap.update a (putSet (insertAt es q.2 (h,Value.int i tk)) q.1):=⟨_,rfl⟩
  rw [← rD] at g1 cx ⊢
  by_cases full:q.1.tooFull=true
  ·have m7:(t.mask=7/\es.size+1=5)\/(t.mask=31/\es.size+1=19)\/(t.mask=127/\es.size+1=77):=by
    unfold tooFull at full
    rw [fill,p5] at full
    simp only [ge_iff_le,decide_eq_true_eq] at full
    have:=T.sz
    rcases T.few.2 with m | m | m | m
    ·rw [m] at full;omega
    ·rw [m.1] at full;omega
    ·rw [m.1] at full;omega
    ·rw [m.1] at full;omega
   obtain ⟨nm,Rn,sa,fw⟩:∃ nm,Round nm/\sizeAbove (grown (es.size+1))=nm+1/\((nm=31/\es.size+1<=18)\/(nm=127/\es.size+1<=76)\/(nm=511/\es.size+1<=300)):=by
    rcases m7 with z | z | z
    ·exact ⟨31,round31,by rw [z.2];decide,.inl ⟨rfl,by omega⟩⟩
    ·exact ⟨127,round127,by rw [z.2];decide,.inr (.inl ⟨rfl,by omega⟩)⟩
    ·exact ⟨511,round511,by rw [z.2];decide,.inr (.inr ⟨rfl,by omega⟩)⟩
   rw [if_pos (by simp [full])]
   obtain ⟨t2,bD,l1,l2,l3,l4,l5,l6,l7⟩:=of' (es:=insertAt es q.2 (h,Value.int i tk)) Rn (by rw [bV];exact fw) q.1.finger (q.1.movedTo nm) q.1.led
   have rel:relayAll q.1 (insertAt es q.2 (h,Value.int i tk)) (grown (insertAt es q.2 (h,Value.int i tk)).size)=(bD.filterMap ((insertAt es q.2 (h,Value.int i tk))[·]?),t2,false):=by
    unfold relayAll
    have:q.1.relaid ((insertAt es q.2 (h,Value.int i tk)).map (·.1)) (grown (insertAt es q.2 (h,Value.int i tk)).size)=some (t2,bD):=by
     unfold relaid
     rw [bV,sa,p6,T.pl]
     exact l1
    rw [this]
    dsimp only
    have cv:coversAll bD (insertAt es q.2 (h,Value.int i tk)).size=true:=List.isPerm_iff.mpr l7
    rw [cv,l3.fits]
    rfl
   rw [rel]
   dsimp only
   refine wpAny_bind (wpAny_of_eq (a:=()) rfl ?_)
   refine wpAny_bind (wpAny_storeSet_of (s:={ s with heap:=h1 }) g1 rfl ?_ (by rw [l2,bV];omega))
   exact wpAny_pure (wpAny_pure (new aI _ _ ⟨_,_,t2,i1' g1 rfl,hc,rfl,l3,by rw [l5,p7,tl]⟩ (λe=>(l6 e).trans (dD e)) (by rw [l2,bV]) λc u ne e=>(get?_update_other _ _ (Ne.symm ne)).trans (cx c u ne e)))
  ·rw [if_neg (by simp [full])]
   refine wpAny_pure (wpAny_pure (new aI h1 _ ⟨_,_,q.1,g1,hc,rfl,⟨p1,p2,p3,p4,?_,by rw [p6];exact T.pl,nX⟩,by rw [p7,tl]⟩ dD bV cx))
   unfold tooFull at full
   rw [fill,p5] at full
   simp only [ge_iff_le,decide_eq_true_eq] at full
   have:=T.sz
   rw [p9,p5]
   refine ⟨by omega,?_⟩
   rcases T.few.2 with m | m | m | m
   ·exact .inl m
   ·refine .inr (.inl ⟨m.1,?_⟩)
    rw [m.1] at full
    omega
   ·refine .inr (.inr (.inl ⟨m.1,?_⟩))
    rw [m.1] at full
    omega
   ·refine .inr (.inr (.inr ⟨m.1,?_⟩))
    rw [m.1] at full
    omega
end
end DL
namespace DL
open PySem PySem.W PySem.Spec PyProof.Rows L2
section
variable {prog:Program}{w:World}{A:Around}{E:Value->Shared->Prop}{s:Shared}
theorem ox' {vs:List Value}{ns:List Int} (h:IntsAre vs ns):TS.AllI (pairsOf vs):=TS.AllI.of λx hx=>by
 rw [pairsOf_toList] at hx
 obtain ⟨e,m⟩:=mem_zip_self hx
 obtain ⟨n,t,e'⟩:=h.intKeys x (by rw [pairsOf_toList];exact hx)
 exact ⟨n,t,e'⟩
theorem qJ' {xs:Array Keyed} (h:TS.SL xs.toList):SortedTo xs xs.size:=by
 intro i j ij hj
 have hi:i < xs.size:=by omega
 rw [TS.fA' (getElem?_pos xs i hi),TS.fA' (getElem?_pos xs j hj)]
 rcases lt_or_ge i j with z | z
 ·have:=pairwise_iff_getElem.mp h i j (by simpa using hi) (by simpa using hj) z
  simpa using this
 ·have:i=j:=by omega
  subst this
  exact Int.le_refl _
theorem mG' {a:Addr}{vs:List Value}{ns:List Int}{e:Nat}{P:PySem.Fin->Shared->Prop} (ho:s.heap.get? a=some (seqObj "list" vs.toArray e)) (hz:vs.length<=sizeLine) (hI:IntsAre vs ns)
  (fin:∀ us ms h' c,IntsAre us ms->ms.Perm ns->ms.Pairwise (·<=·)->KeptBut a s.heap h'->h'.get? a=some (seqObj "list" us.toArray c)->P (.done (.ret .none)) { s with heap:=h' }) :
  wpAny (model prog w) A (Builtin.«list.sort» ⟨[.ref a],[]⟩) P E s:=by
 obtain ⟨g1,bQ⟩:∃ g1,g1=s.heap.update a (mapSeq λ_=>(#[]:Array Value)):=⟨_,rfl⟩
 obtain ⟨e1,o1⟩:∃ e1,g1.get? a=some (seqObj "list" #[] e1):=⟨_,by rw [bQ];exact get?_update_seq ho _⟩
 have k1:KeptBut a s.heap g1:=λb o ne x=>by rw [bQ];exact (get?_update_other _ _ (Ne.symm ne)).trans x
 obtain ⟨g2,bR⟩:∃ g2,g2=(g1.push (seqObj "tuple" vs.toArray 0)).push (seqObj "list" #[] 0):=⟨_,rfl⟩
 have o2:g2.get? a=some (seqObj "list" #[] e1):=by rw [bR];exact get?_push_of_some _ (get?_push_of_some _ o1)
 have k2:KeptBut a s.heap g2:=λb o ne x=>by rw [bR];exact get?_push_of_some _ (get?_push_of_some _ (k1 b o ne x))
 have dW:∀ eM,(2<=vs.length->eM=oneType')->wpAny (model prog w) A ((if vs.toArray.size < 2 then pure () else sortRuns').run (SortSt.mk' eM (vs.toArray.zip vs.toArray) #[] 7 none))
   (λr s'=>s'={ s with heap:=g2 }/\∃ us ms,IntsAre us ms/\ms.Perm ns/\ms.Pairwise (·<=·)/\(arrOf r.2).map (·.2)=us.toArray/\us.length=vs.length/\failedOf r.2=none) E { s with heap:=g2 }:=λeM ke=>by
  rcases lt_or_ge vs.length 2 with bS | big
  ·rw [if_pos (by rw [size_toArray];exact bS)]
   refine wpAny_pure ⟨rfl,vs,ns,hI,List.Perm.refl _,?_,?_,rfl,rfl⟩
   ·have:=hI.length
    match ns with
    | []=>exact List.Pairwise.nil
    | [x]=>exact List.pairwise_singleton _ _
    | x::y::r=>simp at this;omega
   ·show ((vs.toArray.zip vs.toArray).map (·.2))=_
    refine Array.ext (by simp) λi h1 h2=>by simp
  ·rw [if_neg (by rw [size_toArray];omega),ke big]
   have two:2<=(pairsOf vs).size:=by rw [pairsOf_size];exact big
   refine wpAny_mono (TS.qV' (s:={ s with heap:=g2 }) (a₀:=pairsOf vs) (Q:=λ_ ag=>TS.SB (pairsOf vs) ag/\TS.SL (arrOf ag).toList) (ox' hI) (st:=SortSt.mk' oneType' (pairsOf vs) #[] 7 none) ⟨List.Perm.refl _,rfl,rfl⟩ rfl two λag b sl=>⟨b,sl⟩) (λr s' h=>?_) λ_ _ x=>x
   obtain ⟨rfl,b,sl⟩:=h
   have pm:(arrOf r.2).Perm (pairsOf vs):=perm_iff_toList_perm.mpr b.perm
   have sz:(arrOf r.2).size=(pairsOf vs).size:=pm.size_eq
   obtain ⟨ms,m1,m2,m3⟩:=sorted_out hI pm (by rw [← sz];exact qJ' sl)
   exact ⟨rfl,_,ms,m1,m2,m3,by first | exact Array.toArray_toList.symm | exact (Array.toArray_toList _).symm,by rw [length_toList,Array.size_map,sz,pairsOf_size],b.failed⟩
 rw [list_sort_plain]
 refine wpAny_bind (listItems_at ho rfl (wpAny_bind (listUpdate_at ho rfl ?_ (by rw [size_toArray];exact hz) (zero_le _))))
 rw [← bQ]
 refine wpAny_bind (seqEpoch_at o1 rfl (wpAny_bind (wpAny_newTuple (wpAny_bind (wpAny_newList (wpAny_holding ?_) (zero_le _))) (by show vs.length<=_;exact hz))))
 show wpAny (model prog w) A _ P E { s with heap:=(g1.push (seqObj "tuple" vs.toArray 0)).push (seqObj "list" #[] 0) }
 rw [← bR]
 dsimp only
 have kk:2<=vs.length->keyKind' vs.toArray=pure oneType':=λbig=>by
  match vs,hI,big with
  | v₁::v₂::aB,hI,_=>exact keyKind_ints hI
 rcases lt_or_ge vs.length 2 with bS | big
 all_goals
  first
   | (rw [if_pos (by rw [size_toArray];exact bS)];refine wpAny_bind (wpAny_pure ?_);have step:=dW general' λh=>by omega)
   | (rw [if_neg (by rw [size_toArray];omega),kk big];refine wpAny_bind (wpAny_pure ?_);have step:=dW oneType' λ_=>rfl)
  refine wpAny_bind (wpAny_mono step (λr s' h=>?_) λ_ _ x=>x)
  obtain ⟨rfl,us,ms,m1,m2,m3,aO,ln,aI⟩:=h
  rw [aO,aI]
  refine wpAny_bind (seqEpoch_at o2 rfl (wpAny_bind (listUpdate_at o2 rfl ?_ (zero_le _) ?_)))
  ·dsimp only
   rw [bne_self_eq_false,if_neg Bool.false_ne_true]
   exact wpAny_pure (fin us ms _ _ m1 m2 m3 (λb o ne x=>(get?_update_other _ _ (Ne.symm ne)).trans (k2 b o ne x)) (get?_update_seq o2 λ_=>us.toArray))
  ·rw [size_toArray,ln]
   exact Nat.le_succ_of_le hz
theorem fC' {l:Addr}{P:List Value->List Int->Prop}{Q:Value->Shared->Prop} (hP:∀ vs ns,P vs ns->vs.length<=sizeLine/\IntsAre vs ns)
  (col:∀ Q':List Value->Shared->Prop,(∀ vs ns h' tk,P vs ns->(∀ b o,s.heap.get? b=some o->h'.get? b=some o)->s.heap.objs.size<=h'.objs.size->Q' vs { s with heap:=h',toks:=tk })->wpAny (model prog w) A.in1 (collect (.ref l)) Q' E s)
  (fin:∀ vs ns,P vs ns->∀ us ms h' tk D c,IntsAre us ms->ms.Perm ns->ms.Pairwise (·<=·)->(∀ b o,s.heap.get? b=some o->h'.get? b=some o)->s.heap.objs.size<=D->h'.get? D=some (seqObj "list" us.toArray c)->Q (.ref D) { s with heap:=h',toks:=tk }) :
  wpAny (model prog w) A (call (.builtin "sorted") [Value.ref l]) Q E s:=by
 refine Calls.call_function_entry kind_sorted plain_sorted entry_sorted (args_sorted1 _) ?_;refine wpAny_bind (m:=checkCount "sorted" 1 1 _) (wpAny_pure (wpAny_bind (col _ λvs ns g tk p kg above=>wpAny_bind (wpAny_newList ?_ (by have:=(hP vs ns p).1;omega)))))
 obtain ⟨hz,hI⟩:=hP vs ns p
 have aJ:(g.push (seqObj "list" vs.toArray 0)).get? g.objs.size=some (seqObj "list" vs.toArray 0):=get?_push_size _ rfl
 have old:∀ (h':Heap),KeptBut g.objs.size (g.push (seqObj "list" vs.toArray 0)) h'->∀ b o,s.heap.get? b=some o->h'.get? b=some o:=λh' k b o x =>
  k b o (ne_of_lt (lt_of_lt_of_le (lt_size x) above)) (get?_push_of_some _ (kg b o x))
 refine wpAny_bind (wpAny_holding (wpAny_call_entry PyProof.Rows.slot_list_sort ⟨_,aJ,rfl⟩ PyProof.Rows.entry_list_sort ?_ (args_list_sort _)))
 refine mG' (s:={ s with heap:=g.push (seqObj "list" vs.toArray 0),toks:=tk }) aJ hz hI λus ms h' c m1 m2 m3 k aG=>?_
 exact ⟨_,rfl,wpAny_pure ⟨_,rfl,fin vs ns p us ms h' tk _ c m1 m2 m3 (old h' k) above aG⟩⟩
end
end DL
namespace DL
open PySem PySem.W PySem.Spec PyProof.Rows L2 PySem.SetTable
noncomputable def insI (x:Int):List Int->List Int
 | []=>[x]
 | y::l=>if x < y then x::y::l else if x=y then y::l else y::insI x l
def setI (ns:List Int):List Int:=ns.foldr insI []
theorem eT' {x y:Int}:∀ {l:List Int},y∈insI x l↔y=x\/y∈l
 | []=>by simp [insI]
 | z::l=>by
  rw [insI]
  split
  ·simp
  ·split
   ·rename_i e
    subst e
    simp
   ·rw [mem_cons,eT' (l:=l),mem_cons]
    exact ⟨λh=>h.elim (λz=>.inr (.inl z)) λh=>h.elim .inl λz=>.inr (.inr z),λh=>h.elim (λz=>.inr (.inl z)) λh=>h.elim .inl λz=>.inr (.inr z)⟩
theorem i9' {x:Int}:∀ {l:List Int},l.Pairwise (· < ·)->(insI x l).Pairwise (· < ·)
 | [],_=>List.pairwise_singleton _ _
 | z::l,h=>by
  obtain ⟨h1,h2⟩:=pairwise_cons.mp h
  rw [insI]
  split
  ·rename_i lt
   refine pairwise_cons.mpr ⟨λy hy=>?_,h⟩
   rcases mem_cons.mp hy with e | m
   ·rw [e];exact lt
   ·exact Int.lt_trans lt (h1 y m)
  ·split
   ·exact h
   ·refine pairwise_cons.mpr ⟨λy hy=>?_,i9' h2⟩
    rcases eT'.mp hy with e | m
    ·omega
    ·exact h1 y m
theorem aQ' {x:Int}:∀ {ns:List Int},x∈setI ns↔x∈ns
 | []=>by simp [setI]
 | n::ns=>by
  show x∈insI n (setI ns)↔_
  rw [eT',aQ' (ns:=ns),mem_cons]
theorem bt':∀ (ns:List Int),(setI ns).Pairwise (· < ·)
 | []=>List.Pairwise.nil
 | n::ns=>i9' (bt' ns)
theorem b7':∀ {l m:List Int},l.Pairwise (· < ·)->m.Pairwise (· < ·)->(∀ x,x∈l↔x∈m)->l=m
 | [],[],_,_,_=>rfl
 | [],y::m,_,_,h=>absurd ((h y).mpr mem_cons_self) (by simp)
 | x::l,[],_,_,h=>absurd ((h x).mp mem_cons_self) (by simp)
 | x::l,y::m,hl,hm,h=>by
  obtain ⟨a1,a2⟩:=pairwise_cons.mp hl
  obtain ⟨b1,b2⟩:=pairwise_cons.mp hm
  have e:x=y:=by
   rcases mem_cons.mp ((h x).mp mem_cons_self) with e | e
   ·exact e
   ·rcases mem_cons.mp ((h y).mpr mem_cons_self) with e' | e'
    ·exact e'.symm
    ·have:=a1 y e'
     have:=b1 x e
     omega
  subst e
  refine congrArg _ (b7' a2 b2 λz=>⟨λhz=>?_,λhz=>?_⟩)
  ·rcases mem_cons.mp ((h z).mp (mem_cons_of_mem _ hz)) with e | e
   ·have:=a1 z hz;omega
   ·exact e
  ·rcases mem_cons.mp ((h z).mpr (mem_cons_of_mem _ hz)) with e | e
   ·have:=b1 z hz;omega
   ·exact e
theorem eC' {ms L ns:List Int} (p:ms.Perm L) (nd:L.Nodup) (mem:∀ n,n∈L↔n∈ns) (up:ms.Pairwise (·<=·)):ms=setI ns:=by
 refine b7' ?_ (bt' ns) λx=>?_
 ·exact (List.pairwise_and_iff.mpr ⟨up,p.nodup_iff.mpr nd⟩).imp λ⟨h1,h2⟩=>by omega
 ·rw [p.mem_iff,mem,aQ']
noncomputable def keyI (e:Int×Value):Int:=numOf e.2
structure IEs (es:Array (Int×Value)) (ns:List Int):Prop where
 ie:IE es
 nd:(es.toList.map keyI).Nodup
 mem:∀ n,n∈es.toList.map keyI↔n∈ns
theorem IE.key {es:Array (Int×Value)} (h:IE es){e:Int×Value} (he:e∈es):∃ t,e=(hashInt (keyI e),.int (keyI e) t):=by
 obtain ⟨j,t,rfl⟩:=h e he
 exact ⟨t,rfl⟩
theorem ja' {α:Type}:∀ (l m:List α),l.Nodup->(∀ x∈l,x∈m)->l.length<=m.length
 | [],m,_,_=>zero_le _
 | x::l,m,nd,h=>by
  obtain ⟨a,b,rfl⟩:=append_of_mem (h x mem_cons_self)
  rw [nodup_cons] at nd
  have:=ja' l (a++b) nd.2 λy hy=>by
   rcases mem_append.mp (h y (mem_cons_of_mem _ hy)) with z | z
   ·exact mem_append_left _ z
   ·rcases mem_cons.mp z with z | z
    ·subst z;exact absurd hy nd.1
    ·exact mem_append_right _ z
  simp at this ⊢
  omega
theorem IEs.le {es:Array (Int×Value)}{ns:List Int} (h:IEs es ns){ms:List Int} (sub:∀ n∈ns,n∈ms):es.size<=(setI ms).length:=by
 have l:(es.toList.map keyI).length=es.size:=by simp
 rw [← l]
 exact ja' _ _ h.nd λx hx=>aQ'.mpr (sub x ((h.mem x).mp hx))
section
variable {X:Cx}{aa:List (Addr×Obj)}{U:L2.St}{H:Hp}{s0 s:Shared}{prog:Program}{w:World}{A:Around}{E:Value->Shared->Prop}
theorem lk' {S It:Addr} (hS:s0.heap.objs.size<=S) (rE:s0.heap.objs.size<=It){fp:List Addr}{n:Nat}{P:Nat->Value->Prop}{St:Nat->Heap->Prop} (W:Walks prog w A.in1 It fp [It] n P St) (nZ:S∉fp)
  {ns:List Int} (hn:n=ns.length) (few:(setI ns).length<=299) (hP:∀ i v,P i v->∃ x t,ns[i]?=some x/\v=.int x t){led:Bool}{R:Result->Shared->Prop} :
  ∀ (k i:Nat) (s:Shared),n - i=k->i<=n->Ext s0 s->St i s.heap->(∃ es,SetAt s.heap S led es/\IEs es (ns.take i)) →
   (∀ s' es,Ext s0 s'->SetAt s'.heap S led es->IEs es ns->R (.ok (.ret .none)) s') →
   codeAny (model prog w) A (.builtin "set.update.loop" ⟨[.ref S,.ref It],[]⟩) R s:=by
 have n3:S≠It:=λe=>nZ (by rw [e];exact W.sub It mem_cons_self)
 have nb:∀ b,b < s0.heap.objs.size->b∉[It]:=λb hb h=>by
  rw [mem_singleton.mp h] at hb
  exact absurd rE (Nat.not_le.mpr hb)
 have rF:∀ b,b < s0.heap.objs.size->b≠S:=λb hb h=>by
  rw [h] at hb
  exact absurd hS (Nat.not_le.mpr hb)
 intro k
 induction k with
 | zero =>
  intro i s hk hi ex st g9 r
  obtain ⟨es,s1,s2⟩:=g9
  have:i=n:=by omega
  subst this
  refine codeAny_builtin F.entry_set_update_loop ?_;rw [under_plainId F.plain_set_update_loop _]
  refine wpAny_bind (m:=pyNext (.ref It)) (W.done s _ _ st λh' tk keep=>wpAny_pure ?_)
  rw [hn,take_length] at s2
  exact r _ es (ex.next λb o hb x=>keep b o (nb b hb) x) (s1.kept λo x=>keep S o (by simpa using n3) x) s2
 | succ k ih =>
  intro i s hk hi ex st g9 r
  obtain ⟨es,s1,s2⟩:=g9
  have lt:i < ns.length:=by omega
  refine codeAny_builtin F.entry_set_update_loop ?_;rw [under_plainId F.plain_set_update_loop _]
  refine wpAny_bind (m:=pyNext (.ref It)) (W.item i s _ _ (by omega) st λv h1 iM pv bK cx=>?_)
  obtain ⟨x,t,e1,rfl⟩:=hP i v pv
  have rG:∀ tk,Ext s0 { s with heap:=h1,toks:=tk }:=λtk=>ex.next λb o hb x=>cx b o (nb b hb) x
  have n4:SetAt h1 S led es:=s1.kept λo x=>cx S o (by simpa using n3) x
  refine wpAny_bind (m:=holding [.int x t] (setAdd S (.int x t))) (wpAny_holding ?_)
  unfold setAdd
  refine wpAny_holding (wpAny_bind (wpAny_pyHash_int ?_))
  have cF:ns.take (i+1)=ns.take i++[x]:=by rw [take_add_one,e1];rfl
  have cont:∀ h2 es',KeptBut S h1 h2->SetAt h2 S led es'->IEs es' (ns.take (i+1))->codeAny (model prog w) A (.builtin "set.update.loop" ⟨[.ref S,.ref It],[]⟩) R { s with heap:=h2,toks:=iM+1 }:=λh2 es' kb sa eo=>by
   refine ih (i+1) _ (by omega) (by omega) ((rG (iM+1)).next (tk:=iM+1) λb o hb x=>kb b o (rF b hb) x) (W.frame _ _ _ bK λb hb o x=>kb b o (λe=>nZ (e▸hb)) x) ⟨es',sa,eo⟩ r
  have n5:(∃ e∈es,∃ tk,e.2=Value.int x tk)↔x∈es.toList.map keyI:=by
   constructor
   ·rintro ⟨e,he,tk,z⟩
    exact mem_map.mpr ⟨e,by simpa using he,by unfold keyI;rw [z];rfl⟩
   ·intro h
    obtain ⟨e,he,z⟩:=mem_map.mp h
    have he:e∈es:=by simpa using he
    obtain ⟨t,q⟩:=s2.ie.key he
    exact ⟨e,he,t,by rw [q,z]⟩
  have pm:∀ es',(∀ e,e∈es'↔e=(hashInt x,Value.int x t)\/e∈es)->es'.size=es.size+1->x∉es.toList.map keyI->IEs es' (ns.take (i+1)):=λes' mem sz no=>by
   have rH:((hashInt x,Value.int x t)::es.toList).Nodup:=by
    refine nodup_cons.mpr ⟨λh=>no (mem_map.mpr ⟨_,h,rfl⟩),?_⟩
    exact of_map keyI (λa b h e=>h (by rw [e])) s2.nd
   have p:((hashInt x,Value.int x t)::es.toList).Perm es'.toList:=eR' _ _ rH (λe he=>by
    have:e∈es':=(mem e).mpr ((mem_cons.mp he).imp id λh=>by simpa using h)
    simpa using this) (by simp [sz])
   refine ⟨λe he=>?_,?_,λm=>?_⟩
   ·rcases (mem e).mp he with z | z
    ·exact ⟨x,t,z⟩
    ·exact s2.ie e z
   ·refine (p.map keyI).nodup_iff.mp ?_
    rw [map_cons]
    exact nodup_cons.mpr ⟨no,s2.nd⟩
   ·rw [← (p.map keyI).mem_iff,map_cons,mem_cons,s2.mem,cF]
    simp [keyI,numOf]
    exact Or.comm
  refine ow' (s:={ s with heap:=h1,toks:=iM+1 }) n4 s2.ie (λno=>?_) (λh=>?_) λno h2 es' sa mem sz kb=>?_
  ·have:=s2.le (ms:=ns) λn hn=>mem_of_mem_take hn
   omega
  ·refine wpAny_pure ⟨plainId_quiet F.plain_set_update_loop _,cont h1 es (λb o _ x=>x) n4 ⟨s2.ie,s2.nd,λm=>?_⟩⟩
   rw [s2.mem,cF,mem_append,mem_singleton]
   exact ⟨.inl,λz=>z.elim id λe=>by rw [e];exact (s2.mem x).mp (n5.mp h)⟩
  ·have rJ:x∉es.toList.map keyI:=λh=>by
    obtain ⟨e,he,tk,z⟩:=n5.mpr h
    exact no e he tk z
   exact wpAny_pure ⟨plainId_quiet F.plain_set_update_loop _,cont h2 es' kb sa (pm es' mem sz rJ)⟩
end
theorem eU':∀ {vs:List Value}{ns:List Int}{i:Nat}{v:Value},IntsAre vs ns->vs[i]?=some v->∃ x t,ns[i]?=some x/\v=.int x t
 | _,_,i,v,.nil,h=>by simp at h
 | _,_,0,v,.cons _ _ r,h=>by cases h;exact ⟨_,_,rfl,rfl⟩
 | _,_,i+1,v,.cons _ _ r,h=>by
  rw [getElem?_cons_succ] at h
  obtain ⟨x,t,h1,h2⟩:=eU' r h
  exact ⟨x,t,by rw [getElem?_cons_succ];exact h1,h2⟩
section
variable {prog:Program}{w:World}{A:Around}{E:Value->Shared->Prop}{s:Shared}
theorem oy' (hh:A.handled=none){l:Addr}{items:List Value} (hl:s.heap.IsList l items.toArray){ns:List Int} (hI:IntsAre items ns) (few:(setI ns).length<=299){Q:Value->Shared->Prop}
  (q:∀ S s' es,Ext s s'->s.heap.objs.size<=S->SetAt s'.heap S (!byTx w) es->IEs es ns->Q (.ref S) s'):wpAny (model prog w) A (call (.type "set") [.ref l]) Q E s:=by
 obtain ⟨c,tl,u9⟩:=called_set.mro;have rK:=called_set.made
 have gJ:=called_set.sub
 refine wpAny_call (codeAny_of_tree (wpAny_pure ⟨Code.quiet_builtin _ (by decide +kernel),codeAny_builtin F.entry_type_call ?_⟩))
 rw [Around.under_plain (weight_type_call_type "set" [.ref l] []) rfl];have h1:=called_set.notType
 have h2:=called_set.canCreate;have vz:=PySem.F.typeCall_set_1 (.ref l)
 repeat any_goals first | assumption | wp_step
 refine codeAny_mono (oi' (w:=w) (.ref l) (E:=E) (Q:=λobj au=>obj=.ref s.heap.objs.size/\au={ s with heap:=s.heap.push (fresh0 w) }) ⟨rfl,rfl⟩) λr au hr=>?_
 rcases r with e | fl
 ·exact hr
 cases fl with
 | ret obj =>
  obtain ⟨rfl,rfl⟩:=hr
  have hS:(s.heap.push (fresh0 w)).get? s.heap.objs.size=some (fresh0 w):=get?_push_size _ rfl
  have hT:Shared.TypeIs { s with heap:=s.heap.push (fresh0 w) } (.ref s.heap.objs.size) "set":=⟨_,hS,rfl⟩
  have nB:=called_set.init.lookup;have n6:=called_set.init.bind (.ref s.heap.objs.size)
  repeat any_goals first | assumption | wp_step
  refine codeAny_mono (codeAny_call_builtin (R:=wants (λr cL=>r=.none/\∃ es,Ext s cL/\SetAt cL.heap s.heap.objs.size (!byTx w) es/\IEs es ns) E) called_set.init.plain F.entry_set_init (check_set_init_1 hT ?_)) λn8 cL eR=>?_
  ·obtain ⟨ol,n9,cw,nl,oe⟩:=hl;have og:l < s.heap.objs.size:=lt_size n9
   obtain ⟨va,kC,rL,iN⟩:=ol;simp only at cw oe
   subst cw;subst oe
   have jo:(s.heap.push (fresh0 w)).get? l=some { cls:=.type "list", dict:=kC,data:=.seq items.toArray nl,slots:=iN }:=get?_push_of_some _ n9
   have vb:=PySem.F.sub_list_set
   have vd:=PySem.F.sub_list_frozenset
   have gG:(type "list" == type "dict")=false:=(by decide)
   have dM:(s.heap.push (fresh0 w)).IsList l items.toArray:=⟨_,jo,rfl,nl,rfl⟩
   obtain ⟨h1,e1⟩:∃ h1,h1=s.heap.push (fresh0 w):=⟨_,rfl⟩
   have db:h1.objs.size=s.heap.objs.size+1:=by rw [e1,size_push]
   have bJ:∀ b o,s.heap.get? b=some o->h1.get? b=some o:=λb o x=>by rw [e1];exact get?_push_of_some _ x
   rw [← e1] at hS jo dM
   show wpAny _ _ _ _ _ { s with heap:=s.heap.push (fresh0 w) }
   rw [← e1]
   have rM:h1.get? s.heap.objs.size=some { cls:=.type "set", dict:=none,data:=.set #[] 0 (.fresh 0 0 (!byTx w)) }:=hS
   unfold Builtin.«set.__init__» noKeywords updateFrom;generalize hPI:pyIter=PI
   wp_walk
   subst hPI
   refine wpAny_pyIter_list (s:={ s with heap:=h1 }) dM (wpAny_bind (wpAny_runValue ?_))
   have eN:l≠h1.objs.size:=by rw [db];exact ne_of_lt (lt_succ_of_lt og)
   refine lk' (s0:=s) (led:=!byTx w) (le_refl _) (by rw [db];exact le_succ _) (Walks.list (by exact hh) h1.objs.size l eN items.toArray) ?_ (by rw [size_toArray,hI.length]) few (λi v hi=>?_) _ 0 _ rfl (zero_le _) ?_ ?_ ?_ λs' es ex sa eo=>?_
   ·rw [db]
    intro hm
    rcases mem_cons.mp hm with z | z
    ·exact absurd z (ne_of_lt (lt_succ_self _))
    ·exact absurd (mem_singleton.mp z) (ne_of_gt og)
   ·have bP:items[i]?=some v:=by simpa using hi
    exact eU' hI bP
   ·exact ⟨_,s.toks,rfl,λb o x=>get?_push_of_some _ (bJ b o x)⟩
   ·exact ⟨⟨_,get?_push_size _ rfl,rfl,rfl⟩,dM.push _⟩
   ·refine ⟨#[],⟨_,0,_,get?_push_of_some _ rM,rfl,rfl,mC' w,rfl⟩,λe he=>?_,List.nodup_nil,λn=>by simp⟩
    simp at he
   ·exact wpAny_pure (wpAny_pure ⟨rfl,es,ex,sa,eo⟩)
  ·rcases n8 with e | kD
   ·exact eR
   ·cases kD with
    | ret r =>
     obtain ⟨rfl,es,e1,e2,e3⟩:=eR
     repeat any_goals first | assumption | wp_step
     exact q _ _ es e1 (le_refl _) e2 e3
    | _=>exact eR.elim
 | _=>exact hr.elim
theorem jb':∀ (L:List (Int×Value)),(∀ e∈L,∃ j t,e=(hashInt j,Value.int j t))->IntsAre (L.map (·.2)) (L.map keyI)
 | [],_=>.nil
 | e::L,h=>by
  obtain ⟨j,t,rfl⟩:=h e mem_cons_self
  exact .cons _ _ (jb' L λe he=>h e (mem_cons_of_mem _ he))
theorem dT':∀ {us:List Value}{ms:List Int},IntsAre us ms->Vals (ms.map V.int) us
 | _,_,.nil=>.nil
 | _,_,.cons n t r=>.cons ⟨t,rfl⟩ (dT' r)
end
section
variable {X:Cx}{B:BB}{e:Expr}{pos az:Pos}{kr:Nat}{aa:List (Addr×Obj)}{U:L2.St}{H:Hp}{s:Shared}
theorem iv' (hh:X.A.handled=none) (I:Inv X aa U H s){p:Addr}{ns:List Int} (hq:SqL X.K H p (ns.map V.int)) (few:(setI ns).length<=299){Q:VK} (k:∀ l,H l=none->Q (.ref l) (upd H l (.lst ((setI ns).map V.int)))) :
  wpAny (model X.prog X.w) X.A (call (.type "set") [.ref p]) (λv s'=>wpAny (model X.prog X.w) X.A (call (.builtin "sorted") [v]) (EP X aa U Q) X.xe s') X.xe s:=by
 have line:600<=sizeLine:=by rw [sizeLine_eq];decide
 obtain ⟨af,rv,t,hz⟩:=I.list hq
 refine oy' hh t.isList (cG' rv) few λS s' es ex le sa eo=>?_
 have I':=ex.inv I
 obtain ⟨o,ep,tb,ho,hc,hd,T,led⟩:=sa
 have sz:es.size<=299:=le_trans (eo.le (ms:=ns) λn h=>h) few
 have wp:=gw' X.w S ep es
 refine fC' (P:=λvs ms=>vs=(walkOf X.w S ep es).toList.map (·.2)/\ms=(walkOf X.w S ep es).toList.map keyI) (λvs ms h=>?_) (λQ' q=>oh' (A:=X.A.in1) (by exact hh) T led ⟨o,ho,hc,hd⟩ λh' tk k1 k2=>q _ _ h' tk ⟨rfl,rfl⟩ k1 k2) λvs ms h us ks h' tk D c m1 m2 m3 keep above aG=>?_
 ·obtain ⟨rfl,rfl⟩:=h
  refine ⟨?_,jb' _ λe he=>eo.ie e (by simpa using wp.mem_iff.mp he)⟩
  rw [length_map,length_toList,cU']
  omega
 ·obtain ⟨rfl,rfl⟩:=h
  have pk:=wp.map keyI
  have e:=eC' (ns:=ns) m2 (pk.nodup_iff.mpr eo.nd) (λn=>by rw [pk.mem_iff];exact eo.mem n) m3
  subst e
  refine ⟨.ref D,_,I'.laid (t':=tk) keep above (o:=.lst ((setI ns).map V.int)) ⟨?_,us,c,dT' m1,aG⟩,rfl,k D (I'.hok.fresh above)⟩
  show ((setI ns).map V.int).length<=sizeLine
  rw [length_map]
  omega
def rSI (X:Cx) (xs:List V) (H:Hp) (Q:VK):Prop:=∃ (p:Addr) (ns:List Int),xs=[.ref p]/\SqL X.K H p (ns.map V.int)/\(setI ns).length<=299/\∀ l,H l=none->Q (.ref l) (upd H l (.lst ((setI ns).map V.int)))
theorem iw' {p p':Pos}{t:TA} (hr:Room kr X.A) (hg:Gl X "sorted") (hm:X.mg "sorted"=none) (kE:Gl X "set") (fQ:X.mg "set"=none) (ha:PA X [e] t)
  (he:starEach [e] X.env=(false,eval e X.env)::starEach [] X.env:=by rfl) (fO:starEach [.Call (.Name "set" p') [e] [] az] X.env=(false,eval (.Call (.Name "set" p') [e] [] az) X.env)::starEach [] X.env:=by rfl)
  (aA:∀ pos,(backTo pos (starEach [] X.env)).any (·.1)=false:=by intro _;rfl) :
  PE X (.Call (.Name "sorted" p) [.Call (.Name "set" p') [e] [] az] [] pos) (tCB (rSI X) t):=by
 intro aa s U H Q I h
 refine wpAny_Call_Name_kw (aW' I hg hm boot_sorted (PyProof.Rows.callWith_builtin1 ?_ fO (aA _)) (by decide) (by decide))
 rw [fO]
 refine Calls.spliced_cons (wpAny_Call_Name_kw (aW' I kE fQ boot_set (PyProof.Rows.callWith_type1 ?_ he (aA _)) (by decide) (by decide)))
 refine thn (ha az aa s U H _ I h) λus s1 ⟨vs,H1,I1,r1,p,ns,e1,q1,q2,q3⟩=>?_
 subst e1
 obtain ⟨u,rfl,ru⟩:=vals1 r1
 cases ru
 exact thn (iv' hr.hd I1 q1 q2 q3) λv s2 q=>Calls.spliced_nil q
noncomputable def setIF (ds:List D):Option (List D):=match ds with
 | [.lst xs]=>match intsD xs with
  | some ns=>if (setI ns).length<=299 then some ((setI ns).map .int) else none
  | none=>none
 | _=>none
theorem f1' {K:PySem.W.Frag}{I:Hp}:∀ (ns:List Int),IsA K I (ns.map D.int) (ns.map V.int)
 | []=>IsA.nil
 | n::ns=>IsA.cons (Is.int n) (f1' ns)
theorem ix' {p p':Pos}{t:M (List D)} (hr:Room kr X.A) (hg:Gl X "sorted") (hm:X.mg "sorted"=none) (kE:Gl X "set") (fQ:X.mg "set"=none) (ha:AD X B [e] t)
  (he:starEach [e] X.env=(false,eval e X.env)::starEach [] X.env:=by rfl) (fO:starEach [.Call (.Name "set" p') [e] [] az] X.env=(false,eval (.Call (.Name "set" p') [e] [] az) X.env)::starEach [] X.env:=by rfl)
  (aA:∀ pos,(backTo pos (starEach [] X.env)).any (·.1)=false:=by intro _;rfl) :
  EO X B (.Call (.Name "sorted" p) [.Call (.Name "set" p') [e] [] az] [] pos) (fn1 setIF t):=PE.imp (iw' hr hg hm kE fQ ha he fO aA) (jz' λds d e B G I H U Z xs Q r h k=>by
 unfold setIF at e
 split at e
 ·rename_i ys
  cases en:intsD ys with
  | none=>rw [en] at e;cases e
  | some ns =>
   rw [en] at e
   obtain ⟨ok,rfl⟩:=aq' e
   rw [cV' en] at h
   obtain ⟨x,rfl,hx⟩:=h.one
   obtain ⟨q,zs,rfl,h3,h4⟩:=ar' hx
   rw [dx' h4] at h3
   exact ⟨q,ns,rfl,(Same.rdK r.iH h3).sq,ok,λl hl=>k.new r hl (f1' _)⟩
 ·cases e)
end
end DL
namespace DL
open PySem PySem.W PySem.Spec PyProof.Rows L2
section
variable {X:Cx}{B:BB}{a b c c' e:Expr}{es:List Expr}{pos p:Pos}{kr:Nat}{ga gb gc gd:M D}{t:M (List D)}
theorem ll' (hc:X.calm=true):CallR X (.builtin "sum") (λxs H Q=>∃ (p:Addr) (ns:List Int),xs=[.ref p]/\SqL X.K H p (ns.map V.int)/\Q (.int ns.sum) H):=by
 intro aa s U H xs us Q I r h
 obtain ⟨p,ns,rfl,hq,q⟩:=h
 obtain ⟨u,rfl,ru⟩:=vals1 r
 cases ru
 obtain ⟨af,rv,t,hz⟩:=I.list hq
 have hi:=cG' rv
 obtain ⟨xs,ex⟩:=hi.allInts.items
 have hl:=t.isList
 rw [ex] at hl
 refine sum_intListG (I.ok.hd hc) hl λh' tk t' hk=>?_
 have e2:preSum (numAt xs) xs.size=ns.sum:=by
  rw [preSum_eq,take_of_length_le (by simp),← nums_intItems,← ex,show af.toArray.toList=af from rfl,hi.numsOf]
 rw [e2]
 exact ⟨.int ns.sum,H,I.kept hk,⟨t',rfl⟩,q⟩
noncomputable def sumF (ds:List D):Option D:=match ds with
 | [.lst xs]=>match intsD xs with
  | some ns=>some (.int ns.sum)
  | none=>none
 | _=>none
theorem dU' (ns:List Int):sumF [.lst (ns.map D.int)]=some (.int ns.sum):=by
 unfold sumF
 simp only [cW']
theorem dV' (hc:X.calm=true) (hg:Gl X "sum") (hm:X.mg "sum"=none) (ha:AD X B [e] t) (he:starEach [e] X.env=(false,eval e X.env)::starEach [] X.env:=by rfl) (aA:(backTo pos (starEach [] X.env)).any (·.1)=false:=by rfl) :
  ED X B (.Call (.Name "sum" p) [e] [] pos) (fn1 sumF t):=fj' (ll' hc) (λds d e B G I H U Z xs Q r h k=>by
 unfold sumF at e
 split at e
 ·rename_i ys
  cases en:intsD ys with
  | none=>rw [en] at e;cases e
  | some ns =>
   rw [en] at e
   cases e
   rw [cV' en] at h
   obtain ⟨x,rfl,hx⟩:=h.one
   obtain ⟨q,zs,rfl,h3,h4⟩:=ar' hx
   rw [dx' h4] at h3
   exact ⟨q,ns,rfl,(Same.rdK r.iH h3).sq,k.now r (Is.int _)⟩
 ·cases e) hg hm boot_sum ha (by decide) (by decide) he aA
noncomputable def rngW (i:Int) (n:Nat):List V:=(range n).map λ(k:Nat)=>V.int (i+(k:Int))
theorem gM' {ta:TA}{p p2 bf:Pos} (hc:X.calm=true) (hl:Gl X "list") (eU:X.mg "list"=none) (hg:Gl X "range") (hm:X.mg "range"=none) (ha:PA X [a,b] ta)
  (hs:starEach [a,b] X.env=[(false,eval a X.env),(false,eval b X.env)]:=by rfl) (bA:starEach [b] X.env=[(false,eval b X.env)]:=by rfl) (dO:starEach [.Call (.Name "range" p2) [a,b] [] bf] X.env=[(false,eval (.Call (.Name "range" p2) [a,b] [] bf) X.env)]:=by rfl) :
  PE X (.Call (.Name "list" p) [.Call (.Name "range" p2) [a,b] [] bf] [] pos) (λU H Q=>ta U H λvs H1=>∃ i j:Int,vs=[.int i,.int j]/\((-1000000<=i/\i<=1000000)/\-1000000<=j/\j<=1000000)/\∀ l,H1 l=none->Q (.ref l) (upd H1 l (.lst (rngW i (j - i).toNat)))):=by
 intro aa s U H Q I h
 refine Call_ (aW' I hl eU boot_list (PyProof.Rows.callWith_type1 ?_ dO rfl))
 rw [dO]
 refine Calls.spliced_cons (Call_ (aW' I hg hm boot_range (PyProof.Rows.callWith_type1 (thn (ha bf aa s U H _ I h) λus s1 ⟨vs,H1,I1,r1,q1⟩=>?_) (by rw [hs,bA]) (by rw [bA];rfl))))
 obtain ⟨i,j,rfl,q1,q⟩:=q1
 obtain ⟨u1,u2,rfl,⟨t1,rfl⟩,⟨t2,rfl⟩⟩:=r1.two
 refine call_range_2 (Calls.spliced_nil ?_)
 have size:rangeSize i j 1=(j - i).toNat:=by rw [rangeSize_one];split<;>omega
 refine call_list_range (I1.ok.hd hc) (IsRange.new ..) (small_one (by omega) (by omega) (by omega) (by omega)) size (by omega) λg tk am c' keep aJ items=>?_
 refine ⟨.ref _,_,I1.laid (t':=tk) (λb o e=>keep b o (get?_push_of_some _ e)) ?_ (o:=.lst (rngW i (j - i).toNat)) ⟨?_,am.toList,c',?_,aJ⟩,rfl,q _ ?_⟩
 ·exact le_of_lt (by show _ < (Heap.push _ _).objs.size;rw [size_push];exact lt_succ_self _)
 ·show (rngW i (j - i).toNat).length<=sizeLine
  rw [rngW,length_map,length_range,sizeLine_eq];omega
 ·refine cw' (by rw [rngW,length_map,length_range,length_toList,items.1]) λn x u e f=>?_
  rw [getElem?_toList] at f
  obtain ⟨t',rfl⟩:=items.2 n u f
  obtain ⟨k,e1,rfl⟩:=getMap e
  obtain ⟨k1,k2⟩:=List.getElem?_eq_some_iff.mp e1
  rw [getElem_range] at k2
  subst k2
  exact ⟨t',by simp⟩
 ·refine I1.hok.fresh (le_of_lt ?_)
  show _ < (Heap.push _ _).objs.size
  rw [size_push];exact lt_succ_self _
theorem mH' {K:PySem.W.Frag}{I:Hp} (i:Int) (n:Nat):IsA K I (rngD i n) (rngW i n):=by
 unfold rngD rngW
 induction range n with
 | nil=>exact IsA.nil
 | cons k ks ih=>exact IsA.cons (Is.int _) ih
theorem gN' {p p2 bf:Pos} (hc:X.calm=true) (hl:Gl X "list") (eU:X.mg "list"=none) (hg:Gl X "range") (hm:X.mg "range"=none) (ha:AD X B [a,b] t)
  (hs:starEach [a,b] X.env=[(false,eval a X.env),(false,eval b X.env)]:=by rfl) (bA:starEach [b] X.env=[(false,eval b X.env)]:=by rfl) (dO:starEach [.Call (.Name "range" p2) [a,b] [] bf] X.env=[(false,eval (.Call (.Name "range" p2) [a,b] [] bf) X.env)]:=by rfl) :
  EO X B (.Call (.Name "list" p) [.Call (.Name "range" p2) [a,b] [] bf] [] pos) (fn1 rngI2 t):=PE.imp (gM' hc hl eU hg hm ha hs bA dO) λU H Q q=>by
 obtain ⟨G,I,Z,ds,aj,r,e1,k⟩:=q
 obtain ⟨d,ae,e2,e3⟩:=ac' e1
 obtain ⟨e4,rfl⟩:=am' e3
 obtain ⟨i,j,rfl,h1,rfl⟩:=gk' e4
 refine ⟨G,I,Z,_,_,r,e2,λvs H1 I1 r1 g1 hd=>?_⟩
 obtain ⟨x,y,rfl,hx,hy⟩:=hd.two
 exact ⟨i,j,by rw [al' hx,al' hy],h1,λl hl=>(k.after g1).new r1 hl (mH' _ _)⟩
end
noncomputable def mx (m y:Int):Int:=if m < y then y else m
noncomputable def maxI (d:Int):List Int->Int
 | []=>d
 | x::xs=>xs.foldl mx x
theorem lm' (d:Int){ns:List Int} (ne:ns≠[]) (y:Int):maxI d (ns++[y])=mx (maxI d ns) y:=by
 match ns,ne with
 | x::xs,_=>simp [maxI,List.foldl_append]
section
variable {prog:Program}{w:World}{A:Around}{E:Value->Shared->Prop}{s:Shared}
theorem hQ' {id:String}{b:Builtin}{args:List Value}{kw:List (Str×Value)}{Q:Value->Shared->Prop} (hk:builtinKind id=none) (hp:plainId id=true) (hb:entryFor table id=some b) (ha:argsOk id ⟨args,kw⟩)
  (hc:wpAny (model prog w) A.in1 (b ⟨args,kw⟩) (λr s'=>match r with
   | .again d=>d.quiet=true/\codeAny (model prog w) A d (wants Q E) s'
   | .done f=>wants Q E (.ok f) s') E s):wpAny (model prog w) A (call (.builtin id) args kw) Q E s:=by
 have ck:checkBuiltinCall id ⟨args,kw⟩=pure ():=by
  unfold argsOk at ha
  unfold checkBuiltinCall
  rw [hk]
  revert ha
  cases Manifest.signature? id with
  | none=>exact λ_=>rfl
  | some sg=>exact λha=>ha
 refine wpAny_call (codeAny_call_builtin hp hb (wpAny_of_eq ck ?_))
 exact wpAny_mono hc (λr s' h=>by cases r<;>exact h) λ_ _ h=>h
theorem ln' (a v:Value):argsOk "max" ⟨[a],[(ofString "default", v)]⟩:=by unfold argsOk;kernel_rfl
def CellsI (d:Int) (ns:List Int) (j:Nat) (cells:Array Value):Prop:=match j with
 | 0=>cells=#[]
 | j+1=>∃ t,cells=#[.int (maxI d (ns.take (j+1))) t,.int (maxI d (ns.take (j+1))) t]
theorem mI' {it S:Addr}{fp wr:List Addr}{n:Nat}{P:Nat->Value->Prop}{St:Nat->Heap->Prop}{Fit:Shared->Prop}{ak:Result->Shared->Prop}{ns:List Int}{d:Int}{td:Tok} (W:Walks prog w A.in1 it fp wr n P St) (jp:S∉fp)
  (hn:n=ns.length) (hP:∀ i v,P i v->∃ x t,ns[i]?=some x/\v=.int x t) (stay:∀ s h' tk,Fit s->(∀ b o,b∉wr->b≠S->s.heap.get? b=some o->h'.get? b=some o)->Fit { s with heap:=h',toks:=tk })
  (fin:∀ t s,Fit s->ak (.ok (.ret (.int (maxI d ns) t))) s):∀ (left:Nat) (s:Shared) (cells:Array Value) (c j:Nat),j+left=n->St j s.heap->Fit s->CellsI d ns j cells->s.heap.get? S=some { cls:=.type "list", dict:=none,data:=.seq cells c,slots:=#[] } →
   codeAny (model prog w) A (.builtin "max.loop" ⟨[.ref it,.none,.ref S],[(ofString "default", .int d td)]⟩) ak s:=by
 have apart:S∉wr:=λh=>jp (W.sub _ h)
 have eV:∀ {g:Heap}{f:Obj->Obj}{b:Addr}{o:Obj},b≠S->g.get? b=some o->(g.update S f).get? b=some o:=λne e=>(get?_update_other _ _ (Ne.symm ne)).trans e
 have bX:(toString "max"++toString ".loop":String) = "max.loop":=by decide
 intro left
 induction left with
 | zero =>
  intro s cells c j len st iO d7 slot
  refine codeAny_builtin F.entry_max_loop ?_
  rw [under_plainId F.plain_max_loop _]
  refine wpAny_bind (m:=seqItems? (.ref S)) (wpAny_seqItems slot rfl (wpAny_bind (m:=tryCatch (pyNext (.ref it)) _) (wpAny_tryCatch (W.done s _ _ (len▸st) λg tk kk=>?_))))
  have all:ns.take j=ns:=take_of_length_le (by omega)
  cases j with
  | zero =>
   cases d7
   have e0:ns=[]:=length_eq_zero_iff.mp (by omega)
   refine wpAny_bind (wpAny_rule (wpAny_pure ?_))
   have:=fin td { s with heap:=g,toks:=tk } (stay s g tk iO λx o n1 _ e=>kk x o n1 e)
   rw [e0] at this
   exact this
  | succ m =>
   obtain ⟨t,rfl⟩:=d7
   rw [all] at slot ⊢
   exact wpAny_bind (m:=updateSeq S λ_=>#[]) (wpAny_updateSeq (kk S _ apart slot) rfl (wpAny_bind (wpAny_letGo (wpAny_pure (fin t _ (stay s _ tk iO λx o n1 n2 e=>eV n2 (kk x o n1 e)))))))
 | succ left ih =>
  intro s cells c j len st iO d7 slot
  refine codeAny_builtin F.entry_max_loop ?_
  rw [under_plainId F.plain_max_loop _]
  refine wpAny_bind (m:=seqItems? (.ref S)) (wpAny_seqItems slot rfl (wpAny_bind (m:=tryCatch (pyNext (.ref it)) _) (wpAny_tryCatch (W.item j s _ _ (by omega) st λv g tk rN bK kk=>?_))))
  obtain ⟨x,t,ex,rfl⟩:=hP j v rN
  have df:=kk S _ apart slot
  have jq:=stay s g tk iO λx o n1 _ e=>kk x o n1 e
  have cF:ns.take (j+1)=ns.take j++[x]:=by rw [take_add_one,ex];rfl
  have next:∀ (f:Obj->Obj) (cH:Array Value) (c':Nat),(g.update S f).get? S=some { cls:=.type "list", dict:=none,data:=.seq cH c',slots:=#[] }->CellsI d ns (j+1) cH →
    codeAny (model prog w) A (.builtin "max.loop" ⟨[.ref it,.none,.ref S],[(ofString "default", .int d td)]⟩) ak { s with heap:=g.update S f,toks:=tk }:=λf cH c' aG is =>
   ih _ cH c' (j+1) (by omega) (W.frame _ _ _ bK λb hb o e=>eV (λz=>jp (z▸hb)) e) (stay { s with heap:=g,toks:=tk } _ tk jq λx o _ n2 e=>eV n2 e) is aG
  cases j with
  | zero =>
   cases d7
   refine wpAny_bind (m:=updateSeq S λ_=>#[.int x t,.int x t]) (wpAny_updateSeq df rfl ?_)
   rw [bX]
   refine wpAny_pure ⟨plainId_quiet F.plain_max_loop _,next _ _ _ (get?_update_self _ df rfl) ⟨t,?_⟩⟩
   rw [cF]
   rfl
  | succ m =>
   obtain ⟨t2,rfl⟩:=d7
   have ne:ns.take (m+1)≠[]:=λz=>by
    rcases List.take_eq_nil_iff.mp z with z | z
    ·exact absurd z (Nat.succ_ne_zero _)
    ·rw [z] at ex;simp at ex
   have step:maxI d (ns.take (m+2))=mx (maxI d (ns.take (m+1))) x:=by rw [cF,lm' d ne]
   refine wpAny_bind (m:=tryCatch (holding [.int x t,.int x t] (richCompare .Gt (.int x t) (.int (maxI d (ns.take (m+1))) t2) >>= _)) _) (wpAny_tryCatch (wpAny_holding (wpAny_bind (gt_int (wpAny_bind (wpAny_holding (wpAny_truthy_bool (wpAny_bind (wpAny_letGo (wpAny_pure ?_))))))))))
   by_cases hb:maxI d (ns.take (m+1)) < x
   ·rw [if_pos (by simpa using hb)]
    refine wpAny_bind (wpAny_updateSeq df rfl (wpAny_bind (wpAny_letGo ?_)))
    rw [bX]
    refine wpAny_pure ⟨plainId_quiet F.plain_max_loop _,next _ _ _ (get?_update_self _ df rfl) ⟨t,?_⟩⟩
    rw [step,mx,if_pos hb]
   ·rw [if_neg (by simpa using hb)]
    refine wpAny_bind (wpAny_letGo ?_)
    rw [bX]
    refine wpAny_pure ⟨plainId_quiet F.plain_max_loop _,ih _ _ c (m+2) (by omega) bK jq ⟨t2,?_⟩ df⟩
    rw [step,mx,if_neg hb]
theorem mJ' {p:Addr}{af:List Value}{ns:List Int}{d:Int}{td:Tok}{Q:Value->Shared->Prop} (hh:A.handled=none) (L:s.heap.IsList p af.toArray) (hI:IntsAre af ns)
  (fin:∀ t h' tk,(∀ b o,s.heap.get? b=some o->h'.get? b=some o)->Q (.int (maxI d ns) t) { s with heap:=h',toks:=tk }):wpAny (model prog w) A (call (.builtin "max") [.ref p] [(ofString "default", .int d td)]) Q E s:=by
 have low:p < s.heap.objs.size:=by obtain ⟨_,e,_⟩:=L;exact lt_size e
 refine hQ' F.kind_max F.plain_max F.entry_max (ln' _ _) ?_
 refine wpAny_bind (wpAny_of_eq (a:=[none,some (.int d td)]) rfl (wpAny_bind (wpAny_pure (wpAny_bind (wpAny_pyIter_list L (wpAny_bind (wpAny_newObj_type ?_)))))))
 have bX:(toString "max"++toString ".loop":String) = "max.loop":=by decide
 rw [bX]
 have W:=Walks.list (prog:=prog) (w:=w) (A:=A.in1) hh s.heap.objs.size p (ne_of_lt low) af.toArray
 have cZ:∀ o:Obj,(s.heap.push o).objs.size=s.heap.objs.size+1:=λo=>size_push ..
 refine wpAny_pure ⟨plainId_quiet F.plain_max_loop _,mI' (Fit:=λs'=>∃ h' tk,s'={ s with heap:=h',toks:=tk }/\∀ b o,s.heap.get? b=some o->h'.get? b=some o) (ns:=ns) (d:=d) W ?_ ?_ ?_ ?_ ?_ af.toArray.size _ #[] 0 0 (zero_add _) ⟨⟨_,get?_push_of_some _ (get?_push_size _ rfl),rfl,rfl⟩,(L.push _).push _⟩ ⟨_,_,rfl,λb o e=>get?_push_of_some _ (get?_push_of_some _ e)⟩ rfl (get?_push_size _ rfl)⟩
 ·rw [cZ]
  intro z
  rw [mem_cons,mem_singleton] at z
  rcases z with z | z
  ·exact absurd z (Nat.succ_ne_self _)
  ·exact absurd z (ne_of_gt (lt_succ_of_lt low))
 ·rw [size_toArray,hI.length]
 ·intro i v hv
  exact eU' hI (by simpa using hv)
 ·rintro _ h' tk ⟨g,cF,rfl,keep⟩ k
  refine ⟨h',tk,rfl,λb o e=>k b o (λz=>?_) (λz=>?_) (keep b o e)⟩
  ·rw [mem_singleton] at z
   exact ne_of_lt (lt_size e) z
  ·rw [cZ] at z
   have:=lt_size e
   rw [z] at this
   exact absurd this (not_lt.mpr (le_succ _))
 ·rintro t _ ⟨g,tk,rfl,keep⟩
  exact fin t g tk keep
end
section
variable {X:Cx}{B:BB}{e dx:Expr}{pos p kp:Pos}{ga gb:M D}
noncomputable def rMxD (K:PySem.W.Frag):R2:=λx y H Q=>∃ (p:Addr) (ns:List Int) (d:Int),x=.ref p/\y=.int d/\SqL K H p (ns.map V.int)/\Q (.int (maxI d ns)) H
theorem oz' {ta tb:TE} (hc:X.calm=true) (hg:Gl X "max") (hm:X.mg "max"=none) (he:PE X e ta) (hd:PE X dx tb) (hs:backTo pos (starEach [e] X.env)=(false,eval e X.env)::backTo pos (starEach [] X.env):=by rfl)
  (hp:(backTo pos (starEach [e] X.env)).any (·.1)=false:=by rfl):PE X (.Call (.Name "max" p) [e] [⟨some "default", dx,kp⟩] pos) (tOp (rMxD X.K) ta tb):=by
 intro aa s U H Q I h
 refine wpAny_Call_Name_kw (aW' I hg hm boot_max (callWith_kw ?_ hs hp) (by decide) (by decide))
 rw [hs]
 refine Calls.spliced_cons (thn (he aa s U H _ I h) λv s1 ⟨x,H1,I1,r1,q1⟩=>Calls.spliced_nil (kws_cons (thn (hd aa s1 U H1 _ I1 q1) λu s2 ⟨y,H2,I2,r2,q2⟩=>kws_nil ?_)))
 obtain ⟨p,ns,d,rfl,rfl,hq,q⟩:=q2
 cases r1
 obtain ⟨t,rfl⟩:=r2
 obtain ⟨af,rv,tl,hz⟩:=I2.list hq
 exact mJ' (I2.ok.hd hc) tl.isList (cG' rv) λt h' tk keep=>⟨.int (maxI d ns),H2,I2.kept keep,⟨t,rfl⟩,q⟩
noncomputable def maxdF (c k:D):Option D:=match c,k with
 | .lst xs,.int d=>match intsD xs with
  | some ns=>some (.int (maxI d ns))
  | none=>none
 | _,_=>none
theorem oA' (d:Int) (ns:List Int):maxdF (.lst (ns.map D.int)) (.int d)=some (.int (maxI d ns)):=by
 unfold maxdF
 simp only [cW']
theorem oB' (hc:X.calm=true) (hg:Gl X "max") (hm:X.mg "max"=none) (he:ED X B e ga) (hd:ED X B dx gb) (hs:backTo pos (starEach [e] X.env)=(false,eval e X.env)::backTo pos (starEach [] X.env):=by rfl)
  (hp:(backTo pos (starEach [e] X.env)).any (·.1)=false:=by rfl):ED X B (.Call (.Name "max" p) [e] [⟨some "default", dx,kp⟩] pos) (op2 maxdF ga gb):=PE.imp (oz' hc hg hm he hd hs hp) (t_op λa b d e B G I H U Z x y Q r hx hy k=>by
 unfold maxdF at e
 split at e
 ·rename_i ys dv
  cases en:intsD ys with
  | none=>rw [en] at e;cases e
  | some ns =>
   rw [en] at e
   cases e
   rw [cV' en] at hx
   obtain ⟨q,zs,rfl,h3,h4⟩:=ar' hx
   rw [dx' h4] at h3
   exact ⟨q,ns,dv,rfl,al' hy,(Same.rdK r.iH h3).sq,k.now r (Is.int _)⟩
 ·cases e)
end
section
variable {K:PySem.W.Frag}{B:Nat->Option (Option V)}{G I I' H H':Hp}{U:L2.St}{Z:Gm}
theorem Rep.freezeO (r:Rep K B G I H U Z){p:Addr}{o:HO} (h:H p=some o) (hi:I p=none) (a:Apart U Z p):Rep K B G (upd I p o) H U Z where
 iH:=λb u q=>by
  by_cases e:b=p
  ·subst e;rw [ag'] at q;cases q;exact h
  ·rw [ae' e] at q;exact r.iH b u q
 gH:=r.gH
 len:=r.len
 slot:=λi q e=>by
  obtain ⟨v,e1,e2⟩:=r.slot i q e
  refine ⟨v,e1,?_⟩
  have up:=aA' hi o
  have mt:q.ptr=true->∀ ds,Mt K G I H ds v->Mt K G (upd I p o) H ds v:=λm ds h=>by
   obtain ⟨p',aW,h1,h2,h3,h4,h5⟩:=h
   refine ⟨p',aW,h1,h2,?_,h4,h5.mono up⟩
   have ne:p'≠p:=λz=>a i q e m (by rw [e1,h1,z])
   rw [ae' ne];exact h3
  cases q with
  | val d=>exact Is.mono up e2
  | dic ds =>
   obtain ⟨p',aW,h1,h2,h3,h4,h5⟩:=e2
   refine ⟨p',aW,h1,h2,?_,h4,h5.mono up⟩
   have ne:p'≠p:=λz=>a i _ e rfl (by rw [e1,h1,z])
   rw [ae' ne];exact h3
  | own ds=>exact mt rfl ds e2
  | bor ds=>exact mt rfl ds e2
  | fro ds=>obtain ⟨p,xs,f1,f2,f3,f4⟩:=e2;exact ⟨p,xs,f1,up _ _ f2,f3,f4.mono up⟩
 dist:=r.dist
 bor:=r.bor
theorem growFreezeO {G I:Hp}{p:Addr}{o:HO} (hi:I p=none) (hg:G p=none):Grow G I (upd I p o):=⟨aA' hi _,λb u q=>by
 by_cases e:b=p
 ·subst e;exact .inr hg
 ·rw [ae' e] at q;exact .inl q⟩
end
section
variable {prog:Program}{w:World}{A:Around}{E:Value->Shared->Prop}{s:Shared}
theorem lo' (hh:A.handled=none){S:Addr}{κ:Type} [DecidableEq κ]{knd:KeyKind prog w κ}{ah:List (κ×Value)} (hn:ah.length<=1000) (sm:(S == sysModules)=false) (hS:s.heap.DictOf knd S ah){Q:List Value->Shared->Prop}
  (q:∀ vs h' tk,(vs.length=ah.length/\∀ (i:Nat) v,vs[i]?=some v->∃ k x,ah[i]?=some (k,x)/\knd.is k v=true)->(∀ b o,s.heap.get? b=some o->h'.get? b=some o)->s.heap.objs.size<=h'.objs.size->Q vs { s with heap:=h',toks:=tk }):wpAny (model prog w) A (collect (.ref S)) Q E s:=by
 have line:1000<=sizeLine:=by rw [sizeLine_eq];decide
 obtain ⟨ep,hS⟩:=hS.dictAt
 have dY:S < s.heap.objs.size:=hS.lt_size
 unfold collect
 refine wpAny_bind (wpAny_runValue (codeAny_builtin F.entry_proto_collect ?_));rw [under_plainId F.plain_proto_collect _]
 refine wpAny_bind (m:=newList []) (wpAny_newObj_type (wpAny_pure ⟨plainId_quiet F.plain_list_iadd _,codeAny_builtin F.entry_list_iadd ?_⟩))
 rw [under_plainId F.plain_list_iadd _];obtain ⟨h1,e1⟩:∃ h1,h1=s.heap.push { cls:=.type "list", data:=.seq ([]:List Value).toArray }:=⟨_,rfl⟩
 have db:h1.objs.size=s.heap.objs.size+1:=by rw [e1,size_push]
 have bJ:∀ b o,s.heap.get? b=some o->h1.get? b=some o:=λb o x=>by rw [e1];exact get?_push_of_some _ x
 have cb:h1.get? s.heap.objs.size=some { cls:=.type "list", data:=.seq ([]:List Value).toArray }:=by rw [e1];exact get?_push_size _ rfl
 rw [← e1]
 have dz:h1.DictAt knd S ah ep:=hS.keep bJ
 have dj:s.heap.objs.size≠S:=ne_of_gt dY
 show wpAny _ A.in1 (listExtendWith (.ref s.heap.objs.size) (.ref S) (.ref s.heap.objs.size)) _ _ { s with heap:=h1 }
 unfold listExtendWith;refine wpAny_bind (wpAny_typeOf (s:={ s with heap:=h1 }) dz.dictOf.typeIs ?_)
 rw [if_neg (by simp [listSameRef,dj])]
 refine wpAny_bind (wpAny_pyIter_dict (s:={ s with heap:=h1 }) sm dz ?_)
 obtain ⟨I,eI⟩:∃ I,I=h1.objs.size:=⟨_,rfl⟩
 obtain ⟨h2,e2⟩:∃ h2,h2=h1.push { cls:=.type "dict_keyiterator", data:=.fields #[.ref S,.int 0 0,.int ah.length 0,.int ep 0] }:=⟨_,rfl⟩
 have de:∀ b o,h1.get? b=some o->h2.get? b=some o:=λb o x=>by rw [e2];exact get?_push_of_some _ x
 have gS:h2.IsKeyIter I S 0 ah.length ep:=⟨_,by rw [e2,eI];exact get?_push_size _ rfl,rfl,rfl⟩
 have gT:h2.DictAt knd S ah ep:=dz.keep de
 show wpAny _ _ _ _ _ { s with heap:=h1.push _ }
 rw [← e2]
 rw [← eI]
 refine wpAny_bind (wpAny_holding (k8' (s:={ s with heap:=h2 }) gT.dictOf.typeIs ?_))
 rw [if_pos (by decide +kernel)]
 refine wpAny_bind (wpAny_rule (wpAny_bind (m:=listTouch (.ref s.heap.objs.size)) ?_))
 have cf:=de _ _ cb
 refine wpAny_bind (m:=updateSeq s.heap.objs.size (·.push .none)) (wpAny_updateSeq cf rfl ?_ (by simp) (by simp))
 have cB:=get?_update_self (mapSeq (·.push Value.none)) cf rfl
 refine wpAny_updateSeq cB rfl ?_ (by show (#[Value.none]:Array Value).size<=_;simp;omega) (by simp)
 have cg:=get?_update_self (mapSeq (·.pop)) cB rfl
 obtain ⟨h4,e4⟩:∃ h4,h4=((h2.update s.heap.objs.size (mapSeq (·.push Value.none))).update s.heap.objs.size (mapSeq (·.pop))):=⟨_,rfl⟩
 have b9:KeptBut s.heap.objs.size h2 h4:=λb o ne x=>by rw [e4];exact (get?_update_other _ _ (Ne.symm ne)).trans ((get?_update_other _ _ (Ne.symm ne)).trans x)
 rw [← e4] at cg
 show wpAny _ _ _ _ _ { s with heap:=Heap.update (Heap.update h2 _ _) _ _ }
 rw [← e4]
 have eN:s.heap.objs.size≠I:=by rw [eI,db];exact ne_of_lt (lt_succ_self _)
 have gU:S≠I:=by rw [eI,db];exact ne_of_lt (lt_succ_of_lt dY)
 have W:=(Walks.dictKeys (prog:=prog) (w:=w) (A:=A.in1) (knd:=knd) hh I S gU ah ep).toS
 refine wpAny_pure ⟨plainId_quiet F.plain_extend_loop _,codeAny_extend_loopS W (by omega) s.heap.objs.size (by simp [eN,dj]) _ ah.length 0 _ _ _ rfl (zero_le _) ?_ cg (ItemsOf.nil _) λs' am c mv aG it=>?_⟩
 ·obtain ⟨o,a1,a2⟩:=gS
  obtain ⟨o',es',b1,b2⟩:=gT
  exact ⟨⟨o,b9 _ _ (Ne.symm eN) a1,a2⟩,⟨o',es',b9 _ _ (Ne.symm dj) b1,b2⟩⟩
 ·obtain ⟨h',g',d',cF,et⟩:=s';have eg:g'=s.gens:=mv.gens
  have ed:d'=s.drawn:=mv.drawn
  have eo:et=s.os:=mv.os
  subst eg;subst ed;subst eo
  refine wpAny_bind (wpAny_load aG (wpAny_pure ?_))
  have lt':s.heap.objs.size < h'.objs.size:=lt_size aG
  refine q am.toList h' cF ⟨by rw [length_toList];exact it.1,λj v hj=>it.2 j v (by simpa using hj)⟩ (λb o x=>mv.heap b o (λhb=>?_) (b9 b o (ne_of_lt (lt_size x)) (de _ _ (bJ _ _ x)))) (le_of_lt lt')
  have lb:=lt_size x
  rcases mem_cons.mp hb with z | z
  ·exact ne_of_lt lb z
  ·rw [mem_singleton.mp z,eI,db] at lb
   exact absurd lb (not_lt.mpr (le_succ _))
end
section
variable {X:Cx}{B:BB}{e k v f':Expr}{es:List Expr}{pos p:Pos}{g:M (List (Int×D))}{gk gv gx:M D}{kr:Nat}
theorem gO' (hc:X.calm=true):CallR X (.builtin "sorted") (λxs H Q=>∃ (p:Addr) (kx:List (Key×V)) (ns:List Int),xs=[.ref p]/\H p=some (.dK kx)/\kx.map (·.1)=ns.map Sum.inl/\ns.length<=1000/\ns.Nodup ∧
  ∀ l,H l=none->Q (.ref l) (upd H l (.lst ((setI ns).map V.int)))):=by
 intro aa s U H xs us Q I r h
 obtain ⟨p,kx,ns,rfl,hp,ek,few,nd,k⟩:=h
 obtain ⟨u,rfl,ru⟩:=vals1 r
 cases ru
 have line:1000<=sizeLine:=by rw [sizeLine_eq];decide
 obtain ⟨z,hd,vs,rel,dd⟩:=jy' I.hok hp
 have lk:kx.length=ns.length:=by have:=congrArg length ek;simpa using this
 have lv:vs.length=ns.length:=by rw [← rel.length];exact lk
 refine fC' (P:=λaf ms=>ms=ns/\Vals (ns.map V.int) af) (λaf ms h=>?_) (λQ' q=>?_) λaf ms h us ks h' tk D c m1 m2 m3 keep above aG=>?_
 ·obtain ⟨rfl,rv⟩:=h
  exact ⟨by rw [← rv.length,length_map];omega,cG' rv⟩
 ·refine lo' (A:=X.A.in1) (I.ok.hd hc) (by omega) hd dd λaf h' tk jr keep sz=>q af ns h' tk ⟨rfl,?_⟩ keep sz
  refine cw' (by rw [length_map,jr.1,lv]) λi x u e1 e2=>?_
  obtain ⟨kk,xx,f1,f2⟩:=jr.2 i u e2
  obtain ⟨n,g1,rfl⟩:=getMap e1
  have h1:(vs.map (·.1))[i]?=some kk:=by rw [getElem?_map,f1];rfl
  rw [← rel.keys,ek,getElem?_map,g1] at h1
  cases h1
  have f3:keyIs (Sum.inl n) u=true:=f2
  rcases aG' f3 with ⟨i',t,e,e'⟩ | ⟨y,t,e,e'⟩
  ·cases e;exact ⟨t,e'⟩
  ·cases e
 ·obtain ⟨rfl,rv⟩:=h
  have e:=eC' (ns:=ms) m2 nd (λ_=>Iff.rfl) m3
  subst e
  refine ⟨.ref D,_,I.laid (t':=tk) keep above (o:=.lst ((setI ms).map V.int)) ⟨?_,us,c,dT' m1,aG⟩,rfl,k D (I.hok.fresh above)⟩
  show ((setI ms).map V.int).length<=sizeLine
  rw [length_map,m2.length_eq]
  omega
noncomputable def sortKIF (ah:List (Int×D)):Option (List D):=if ah.length<=1000/\(ah.map (·.1)).Nodup then some ((setI (ah.map (·.1))).map .int) else none
def sortKI (g:M (List (Int×D))):M (List D):=bnd g λah=>lft (sortKIF ah)
theorem lp' (hc:X.calm=true) (hg:Gl X "sorted") (hm:X.mg "sorted"=none) (ha:EK X B e g) (he:starEach [e] X.env=(false,eval e X.env)::starEach [] X.env:=by rfl) (aA:(backTo pos (starEach [] X.env)).any (·.1)=false:=by rfl) :
  EO X B (.Call (.Name "sorted" p) [e] [] pos) (sortKI g):=PE.imp (dm' (gO' hc) hg hm PyProof.Rows.boot_sorted (bY' ha dM' he) (by decide) (by decide) he aA) λU H Q q=>by
 obtain ⟨G,I,Z,d,aj,r,e1,kk⟩:=q
 obtain ⟨ah,ae,e2,e3⟩:=ac' e1
 obtain ⟨e4,rfl⟩:=am' e3
 obtain ⟨bx,rfl⟩:=aq' e4
 refine ⟨G,I,Z,ah,_,r,e2,λq xs H1 I1 r1 g1 h1 h2 h3 h4 h5=>?_⟩
 refine ⟨q,xs,ah.map (·.1),rfl,h1,by rw [h5.1,map_map];rfl,by simpa using bx.1,bx.2,λl hl=>?_⟩
 exact kk l _ _ _ (r1.fresh hl _) g1 ag' (r1.iFree hl) (r1.gFree hl) (r1.apart hl) (f1' _)
noncomputable def dlit0:M (List (Int×D)):=ret []
theorem mK':EK X B (.Dict [] [] pos) dlit0:=PE.imp mb' λU H Q q p hl=>by
 obtain ⟨G,I0,Z,ah,aj,r,e1,kk⟩:=q
 cases e1
 exact kk _ _ _ _ (r.fresh hl _) (Grow.refl _ _) ag' (r.iFree hl) (r.gFree hl) (r.apart hl) IsK.nil
noncomputable def Itd (a:Addr) (o:Obj):It :=
 ⟨λi H=>∃ xs,H a=some (.frz o (.dK xs))/\i < xs.length,λi H x H'=>H'=H/\∀ xs,H a=some (.frz o (.dK xs))->∃ k y,xs[i]?=some (k,y)/\x=kV k,λi H=>∃ xs,H a=some (.frz o (.dK xs))/\xs.length<=i⟩
theorem lq' {P:Program}{w:World}{H:Hp}{h:Heap}{a:Addr}{o:Obj}{xs:List (Key×V)}{es:Array DictEntry}{ep:Nat} (ok:HOk P w H h) (e:H a=some (.frz o (.dK xs))) (hd:o.data=.dict es ep):∃ vs,L2.KV xs vs/\h.DictAt (mixKind P w) a vs ep:=by
 obtain ⟨ho,_,_,vs,rel,o',es',h9,bG,r1,r2,r3⟩:=(show ObjOk P w H h a (.frz o (.dK xs)) from ok a _ e)
 rw [ho] at bG
 cases bG
 rw [hd] at r2
 cases r2
 exact ⟨vs,rel,o,es,ho,r1,hd,r3⟩
theorem lr' {P:Program}{w:World}{K:PySem.W.Frag}{tg:Expr} (a it:Addr) (o:Obj){es:Array DictEntry}{ep n:Nat} (hd:o.data=.dict es ep) (hn:es.size=n) (ne:a≠it):Turn P w K tg (Itd a o) [it] it (λi h=>h.IsKeyIter it a i n ep) where
 mem:=by simp
 obj:=λi h st b hb=>by
  have e:b=it:=by simpa using hb
  subst e
  obtain ⟨o,e,c,d⟩:=st
  exact ⟨o,e,λv z=>by rw [d] at z;cases z⟩
 keep:=λi h h' st k=>st.at λo e=>k it (by simp) o e
 item:=by
  intro X hP hw hK hc i aa s U H E I hf st hg
  subst hP hw hK
  obtain ⟨xs,hq,hi⟩:=hg
  obtain ⟨vs,rel,dd⟩:=lq' I.hok hq hd
  have lv:vs.length=xs.length:=rel.length.symm
  have ln:vs.length=n:=by
   obtain ⟨o',es',bG,_,bj,_,pr,_⟩:=id dd
   have ho:=(show ObjOk X.prog X.w H s.heap a (.frz o (.dK xs)) from I.hok a _ hq).1
   rw [ho] at bG
   cases bG
   rw [hd] at bj
   cases bj
   have:=pr.length
   rw [length_toList] at this
   omega
  obtain ⟨f0,f1,f2,f3,f4,f5⟩:=hf it (by simp)
  have W:=Walks.dictKeys (prog:=X.prog) (w:=X.w) (A:=X.A) (knd:=mixKind X.prog X.w) (I.ok.hd hc) it a ne vs ep
  refine W.item i s _ _ (by omega) ⟨by rw [ln];exact st,dd⟩ λv h' tk hv ag kk=>?_
  obtain ⟨k,y,e1,e2⟩:=hv
  have I1:Inv X aa U H { s with heap:=h',toks:=tk }:=I.turned (λb o hb e=>kk b o (by simpa using hb) e) f0 f1 f3 f4 f5
  obtain ⟨oi,e,c,d⟩:=id ag.1
  have kx:(xs.map (·.1))[i]?=some k:=by rw [rel.keys,getElem?_map,e1];rfl
  refine ⟨v,rfl,gX' (s:={ s with heap:=h',toks:=tk }) e c d (by decide) ⟨kV k,H,I1,?_,⟨rfl,λys hy=>?_⟩,by have:=ag.1;rw [ln] at this;exact this,λb hb=>(hf b hb).1⟩⟩
  ·have e2:keyIs k v=true:=e2
   rcases aG' e2 with ⟨j,t,rfl,e'⟩ | ⟨j,t,rfl,e'⟩
   ·exact ⟨t,e'⟩
   ·exact ⟨t,e'⟩
  ·rw [hq] at hy
   cases hy
   obtain ⟨q,g1,g2⟩:=getMap kx
   exact ⟨q.1,q.2,g1,by rw [← g2]⟩
 done:=by
  intro X hP hw hK hc i aa s U H E I hf st hg
  subst hP hw hK
  obtain ⟨xs,hq,hi⟩:=hg
  obtain ⟨vs,rel,dd⟩:=lq' I.hok hq hd
  have lv:vs.length=xs.length:=rel.length.symm
  have ln:vs.length=n:=by
   obtain ⟨o',es',bG,_,bj,_,pr,_⟩:=id dd
   have ho:=(show ObjOk X.prog X.w H s.heap a (.frz o (.dK xs)) from I.hok a _ hq).1
   rw [ho] at bG
   cases bG
   rw [hd] at bj
   cases bj
   have:=pr.length
   rw [length_toList] at this
   omega
  obtain ⟨f0,f1,f2,f3,f4,f5⟩:=hf it (by simp)
  exact wpAny_pyNext_dict_end (I.ok.hd hc) (by rw [ln];exact st) dd (List.getElem?_eq_none (by omega)) λh' eb=>⟨rfl,I.turned (t':=s.toks) (λb o hb e=>eb b o hb e) f0 f1 f3 f4 f5⟩
 self:=λ_ _ _ _ _ st h=>wpAny_pyIter_keyiter st h
theorem qK' {tg:Expr}{te:TE} (he:PE X e te):PI X tg e (λU H R=>te U H λx H1=>∃ a xs,x=.ref a/\H1 a=some (.dK xs)/\∀ o,R (Itd a o) (upd H1 a (.frz o (.dK xs)))):=by
 intro aa s U H R I h
 refine thn (he aa s U H _ I h) λv s1 ⟨x,H1,I1,r1,a,xs,ex,hp,q⟩=>?_
 subst ex
 cases r1
 obtain ⟨z,hd,vs,rel,o,es,ep,ho,r2,r3,r4,r5,r6⟩:=jy' I1.hok hp
 refine wpAny_pyIter_dict (knd:=mixKind X.prog X.w) hd ⟨o,es,ho,r2,r3,r4,r5,r6⟩ ?_
 have I2:Inv X aa U (upd H1 a (.frz o (.dK xs))) { s1 with heap:=s1.heap,toks:=s1.toks }:=fN' (ob:=.frz o (.dK xs)) I1 (by rw [hp];exact True.intro) (Heap.SameBut.refl a s1.heap) ⟨o,ho⟩ ⟨ho,z,hd,vs,rel,o,es,ep,ho,r2,r3,r4,r5,r6⟩
 have ln:es.size=vs.length:=by rw [← r5.length,length_toList]
 have lt:a < s1.heap.objs.size:=lt_size ho
 refine ⟨s1.heap.objs.size,[s1.heap.objs.size],_,_,_,rfl,I2.kept (t':=s1.toks) λb o e=>get?_push_of_some _ e,lr' a _ o r3 ln (ne_of_lt lt),⟨_,get?_push_size _ rfl,rfl,rfl⟩,λb hb=>?_,q o⟩
 have e:b=s1.heap.objs.size:=by simpa using hb
 subst e
 exact I1.fpOk (le_refl _) (by rw [ae' (ne_of_gt lt)];exact I1.hok.fresh (le_refl _))
def itK (g:M (List (Int×D))):M (List D):=bnd g λah=>ret (keysD ah)
theorem p5' {tg:Expr} (ha:EK X B e g):ITD X B tg e (itK g):=PI.imp (qK' ha) λU H R q=>by
 obtain ⟨G,I,Z,ds,aj,r,e1,k⟩:=q
 obtain ⟨ah,ae,e2,e3⟩:=ac' e1
 cases e3
 refine ⟨G,I,Z,ah,_,r,e2,λa xs H1 I1 r1 g1 h1 h2 h3 h4 h5=>⟨a,xs,rfl,h1,λo=>?_⟩⟩
 have r2:Rep X.K B G I1 (upd H1 a (.frz o (.dK xs))) U aj:=r1.extBut h4 h3 h2 h2 (Same.refl _) (λb u e ne=>by rw [ae' ne];exact e) (λb u e=>by
  have ne:b≠a:=λz=>by subst z;rw [h2] at e;cases e
  rw [ae' ne];exact r1.iH b u e) λb u e=>.inl e
 refine k _ _ _ (r2.freezeO ag' h2 h4) (g1.trans (growFreezeO h2 h3)) λi H2 s2=>?_
 have aJ:H2 a=some (.frz o (.dK xs)):=s2 a _ ag'
 have len:=h5.len
 refine ⟨λd hd=>⟨⟨xs,aJ,?_⟩,λx H3 hy=>.inl ⟨hy.1,?_⟩⟩,λhi=>⟨xs,aJ,?_⟩⟩
 ·have:=(List.getElem?_eq_some_iff.mp hd).1
  unfold keysD at this
  rw [length_map] at this
  omega
 ·obtain ⟨kk,y,f1,f2⟩:=hy.2 xs aJ
  have f3:(xs.map (·.1))[i]?=some kk:=by rw [getElem?_map,f1];rfl
  rw [h5.1] at f3
  unfold keysD at hd
  rw [getElem?_map] at f3 hd
  cases z:ah[i]? with
  | none=>rw [z] at hd;cases hd
  | some q =>
   rw [z] at f3 hd
   cases f3
   cases hd
   rw [f2]
   exact Is.int _
 ·unfold keysD at hi
  rw [length_map] at hi
  omega
end
abbrev IsZip1 (h:Heap) (z TI TO:Addr) (f0 f1:Value):Prop :=
 h.get? z=some { cls:=.type "zip", dict:=none,data:=.fields #[f0,f1,.bool false,.ref TI,.ref TO],slots:=#[] }
section
variable {prog:Program}{w:World}{A:Around}{E:Value->Shared->Prop}{s:Shared}{k:Kd}
theorem mL' {a:Addr}{o:Obj}{Q:Option Obj->Shared->Prop} (ho:s.heap.get? a=some o) (h:Q (some o) s):wpAny (model prog w) A (loadIfAlive a) Q E s:=λZ p _=>by
 have h':Q (s.heap.get? a) s:=by rw [ho];exact h
 exact h'
theorem oC' {z ta aF T:Addr}{b:Bool}{R:Bool->Shared->Prop} (vI:IsZip1 s.heap z ta aF (rawInt T) (.bool b)) (al:∃ o,s.heap.get? T=some o)
  (r:∀ g:Heap,IsZip1 g z ta aF (rawInt T) (.bool true)->Heap.SameBut z s.heap g->R false { s with heap:=g }):wpAny (model prog w) A (ownedTupleIsFree (.ref z)) R E s:=by
 obtain ⟨oT,hT⟩:=al
 refine wpAny_bind (wpAny_field (i:=0) vI rfl (x:=rawInt T) rfl (wpAny_bind (mL' hT ?_)))
 rw [if_neg (by simp)]
 refine wpAny_bind (wpAny_field (i:=1) vI rfl (x:=.bool b) rfl ?_)
 cases b with
 | true =>
  rw [if_neg (by decide)]
  exact wpAny_pure (r s.heap vI (Heap.SameBut.refl _ _))
 | false =>
  rw [if_pos (by decide)]
  exact wpAny_bind (wpAny_setField_rec vI (by simp) λg Z1 b1=>wpAny_pure (r g Z1 b1))
theorem hR' (ok:KdOk k){z ta aF p q u v T:Addr}{m n:Nat}{xs ys:Array Value}{b:Bool}{Q:PySem.Fin->Shared->Prop} (D:ZipApart z ta aF p q u v) (vI:IsZip1 s.heap z ta aF (rawInt T) (.bool b)) (al:∃ o,s.heap.get? T=some o) (Ta:IsPair s.heap ta (.ref p) (.ref q))
  (P:k.it s.heap p u m) (P':k.it s.heap q v n) (vH:k.sq s.heap u xs) (U':k.sq s.heap v ys)
  (dB:∀ x y,xs[m]?=some x->ys[n]?=some y->∀ g:Heap,IsPair g s.heap.objs.size x y->IsZip1 g z ta aF (rawInt T) (.bool true)->k.it g p u (m+1)/\k.it g q v (n+1) →
   (∀ c o,(c≠z/\c≠p/\c≠q)->s.heap.get? c=some o->g.get? c=some o)->Q (.done (.ret (.ref s.heap.objs.size))) { s with heap:=g })
  (dU:(xs[m]?=none\/ys[n]?=none)->A.handled=none/\∀ (g:Heap) (x:Addr),(∀ c o,(c≠z/\c≠p/\c≠q)->s.heap.get? c=some o->g.get? c=some o)->(∃ o,g.get? x=some o/\o.cls=.type "StopIteration")->E (.ref x) { s with heap:=g }) :
  wpAny (model prog w) A (Builtin.«zip.__next__» ⟨[.ref z],[]⟩) Q E s:=by
 refine wpAny_bind (wpAny_of_eq (a:=(Value.ref z,[])) rfl (wpAny_bind (wpAny_field (i:=2) vI rfl (x:=.bool false) rfl (wpAny_bind (wpAny_field (i:=3) vI rfl (x:=.ref ta) rfl (wpAny_bind (wpAny_seqItems Ta rfl ?_)))))))
 refine wpAny_bind (m:=ownedTupleIsFree (.ref z)) (oC' vI al λg1 Z1 b1=>?_)
 rw [if_neg Bool.false_ne_true]
 have f1:∀ c o,c≠z->s.heap.get? c=some o->g1.get? c=some o:=λc o ne e=>b1.extBut _ _ ne e
 refine wpAny_bind ?_
 rw [← Array.forIn_toList,show (#[Value.ref p,Value.ref q]:Array Value).toList=[.ref p,.ref q] from rfl,forIn_cons]
 refine wpAny_bind (wpAny_bind (wpAny_holding (wpAny_bind (m:=nextOf (.ref p)) ?_)))
 have P1:=ok.itAt P λo e=>f1 _ o D.i1z e
 have U1:=ok.sqAt vH λo e=>f1 _ o D.l1z e
 cases hx:xs[m]? with
 | none =>
  obtain ⟨hh,ak⟩:=dU (.inl hx)
  exact ok.stop hh P1 U1 hx λg2 x b2 is=>ak g2 x (λc o ne e=>b2 _ _ ne.2.1 (f1 c o ne.1 e)) is
 | some x =>
  refine ok.item P1 U1 hx λg2 P2 b2=>wpAny_pure ?_
  dsimp only
  refine wpAny_pure ?_
  have f2:∀ c o,c≠p->g1.get? c=some o->g2.get? c=some o:=λc o n2 e=>b2.extBut _ _ n2 e
  dsimp only
  rw [forIn_cons]
  refine wpAny_bind (wpAny_bind (wpAny_holding (wpAny_bind (m:=nextOf (.ref q)) ?_)))
  have Q2:=ok.itAt P' λo e=>f2 _ o D.i12.symm (f1 _ o D.i2z e)
  have V2:=ok.sqAt U' λo e=>f2 _ o D.l2i1 (f1 _ o D.l2z e)
  cases hy:ys[n]? with
  | none =>
   obtain ⟨hh,ak⟩:=dU (.inr hy)
   exact ok.stop hh Q2 V2 hy λg4 x b4 is=>ak g4 x (λc o ne e=>b4 _ _ ne.2.2 (f2 c o ne.2.1 (f1 c o ne.1 e))) is
  | some y =>
   refine ok.item Q2 V2 hy λg4 Q4 b4=>wpAny_pure ?_
   dsimp only
   refine wpAny_pure ?_
   dsimp only
   rw [forIn_nil]
   refine wpAny_pure (wpAny_bind (wpAny_newTuple (wpAny_pure ?_) (by show 2<=sizeLine;rw [sizeLine_eq];decide)))
   have same:g4.objs.size=s.heap.objs.size:=b4.1.trans (b2.1.trans b1.1)
   have Z4:IsZip1 g4 z ta aF (rawInt T) (.bool true):=b4.extBut _ _ D.i2z.symm (f2 _ _ D.i1z.symm Z1)
   have T5:IsPair (g4.push { cls:=.type "tuple", data:=.seq #[x,y] }) g4.objs.size x y:=get?_push_size _ rfl
   show Q (.done (.ret (.ref g4.objs.size))) { s with heap:=g4.push { cls:=.type "tuple", data:=.seq #[x,y] } }
   rw [same] at T5 ⊢
   exact dB x y hx hy _ T5 (get?_push_of_some _ Z4) ⟨ok.itAt P2 λo e=>get?_push_of_some _ (b4.extBut _ _ D.i12 e),ok.itAt Q4 λo e=>get?_push_of_some _ e⟩
    λc o ne e=>get?_push_of_some _ (b4.extBut _ _ ne.2.2 (f2 c o ne.2.1 (f1 c o ne.1 e)))
end
theorem gz' {X:Cx}{aa:List (Addr×Obj)}{U:L2.St}{H:Hp}{s:Shared}{T:Addr}{o:HO} (I:Inv X aa U H s) (f:FpOk X aa H T) (new:ObjOk X.prog X.w (upd H T o) s.heap T o):Inv X aa U (upd H T o) s:=by
 have ne:∀ {b u},H b=some u->b≠T:=λ{b u} e=>aD' e f.1
 have:=I.step (H':=upd H T o) (h':=s.heap) (g':=s.gens) (d':=s.drawn) (t':=s.toks) (ch:=[T]) (λb hb=>by rw [mem_singleton.mp hb];exact ⟨f.2.2.2.1,f.2.1,f.2.2.2.2.1,f.2.2.2.2.2⟩) (λb u _ _ hc e _=>e) (λb u _ _ hc e _=>⟨u.slots,e⟩)
  (λb u hc e n=>by rw [ae' (by simpa using hc)];exact n) (λb u hc e=>⟨u,e⟩) (λb xs e=>by rw [ae' (ne e)];exact e) (λb u v e=>by rw [ae' (ne e)];exact e) (λb q e=>by rw [ae' (ne e)];exact e) (λm hm=>hm) (λb u e=>?_) I.bare
 ·exact this
 ·by_cases hb:b=T
  ·subst hb;rw [ag'] at e;cases e;exact new
  ·rw [ae' hb] at e
   exact (I.hok b u e).stay (λc v hc q=>q) (λc q=>by rw [ae' (ne q)];exact q) (λc xs q=>by rw [ae' (ne q)];exact q) λc o u q=>by rw [ae' (ne q)];exact q
def zipK:List V->List V->Hp->List V->(List V->Hp->Prop)->Prop
 | x::xs,y::ys,H,am,Q=>∀ p,H p=none->zipK xs ys (upd H p (.tup [x,y])) (am++[.ref p]) Q
 | _,_,H,am,Q=>Q am H
def ZipAt (h:Heap) (z ta aF:Addr):Nat->Prop
 | 0=>IsZip h z ta aF .none/\∃ a b,IsPair h aF a b
 | _+1=>∃ (T:Addr) (b:Bool),IsZip1 h z ta aF (rawInt T) (.bool b)/\∃ o,h.get? T=some o
theorem gA':∀ {xs:List V}{us:List Value}{x:V}{u:Value},Vals xs us->RelV x u->Vals (xs++[x]) (us++[u])
 | _,_,_,_,.nil,h=>.cons h .nil
 | _,_,_,_,.cons a r,h=>.cons a (gA' r h)
section
variable {X:Cx}{aa:List (Addr×Obj)}{U:L2.St}{A:Around}{R:Result->Shared->Prop}
theorem mM' {z ta aF p q u v S:Addr} (D:ZipApart z ta aF p q u v) (hh:A.handled=none){xs ys:List V}{af aX:List Value} (r1:Vals xs af) (r2:Vals ys aX) (hl:xs.length=ys.length) (hz:xs.length < sizeLine) (hS:S∉[z,ta,aF,p,q,u,v]){Qf:List V->Hp->Prop}
  (fin:∀ s' H' aK us c,Inv X aa U H' s'->FpOk X aa H' S->s'.heap.get? S=some { cls:=.type "list", dict:=none,data:=.seq (us:List Value).toArray c,slots:=#[] }->Vals aK us->aK.length=xs.length->Qf aK H'->R (.ok (.ret .none)) s') :
  ∀ (k i:Nat) (s:Shared) (H:Hp) (aK:List V) (us:List Value) (c:Nat),xs.length - i=k->i<=xs.length->Inv X aa U H s->(∀ b∈[z,ta,aF,p,q,S],FpOk X aa H b/\b < s.heap.objs.size)->ZipAt s.heap z ta aF i->IsPair s.heap ta (.ref p) (.ref q)->s.heap.IsListIter p u i->s.heap.IsListIter q v i →
   s.heap.IsList u af.toArray->s.heap.IsList v aX.toArray->s.heap.get? S=some { cls:=.type "list", dict:=none,data:=.seq us.toArray c,slots:=#[] }->Vals aK us->aK.length=i->zipK (xs.drop i) (ys.drop i) H aK Qf →
   codeAny (model X.prog X.w) A (.builtin "list.extend.loop" ⟨[.ref S,.ref z,.none],[]⟩) R s:=by
 have l1:=r1.length
 have l2:=r2.length
 simp only [mem_cons,not_mem_nil,or_false,not_or] at hS
 obtain ⟨s1,s2,s3,s4,s5,s6,s7⟩:=hS
 intro k
 induction k with
 | zero =>
  intro i s H aK us c hk hi I hf za Ta P P' vH U' iP rv rl zk
  have:i=xs.length:=by omega
  refine codeAny_builtin F.entry_extend_loop ?_
  rw [under_plainId F.plain_extend_loop _]
  have hG:af.toArray[i]?=none:=by rw [List.getElem?_toArray];exact List.getElem?_eq_none (by omega)
  have hT:s.TypeIs (.ref z) "zip":=by
   cases i with
   | zero=>exact ⟨_,za.1,rfl⟩
   | succ i=>obtain ⟨T,b,z1,_⟩:=za;exact ⟨_,z1,rfl⟩
  have ak:∀ (g:Heap) (x:Addr),(∀ c o,(c≠z/\c≠aF/\c≠p/\c≠q)->s.heap.get? c=some o->g.get? c=some o)->(∃ o,g.get? x=some o/\o.cls=.type "StopIteration") →
    wpAny (model X.prog X.w) A.in1 (isInstance (.ref x) (.type "StopIteration") >>= λb=>if b=true then pure none else throw (.ref x)) (λ(r:Option Value) s1=>r=none/\R (.ok (.ret .none)) s1) (λ_ _=>False) { s with heap:=g }:=λg x kk is=>by
   obtain ⟨o,ho,gK⟩:=is
   refine wpAny_bind (wpAny_isInstance (T := "StopIteration") (b:=true) ⟨o,ho,gK⟩ isSubtype_stop ?_)
   refine wpAny_pure ⟨rfl,?_⟩
   have I1:Inv X aa U H { s with heap:=g }:=bI' (t':=s.toks) I (ch:=[z,aF,p,q]) (λb hb=>(hf b (by simp only [mem_cons,not_mem_nil,or_false] at hb ⊢;rcases hb with h | h | h | h<;>simp [h])).1) λb u hb e=>by
    simp only [mem_cons,not_mem_nil,or_false,not_or] at hb
    exact kk b u hb e
   refine fin _ H aK us c I1 (hf S (by simp)).1 (kk S _ ⟨s1,s3,s4,s5⟩ iP) rv (by omega) ?_
   rw [this,drop_length,hl,drop_length] at zk
   exact zk
  have next:wpAny (model X.prog X.w) A.in1 (pyNext (.ref z)) (λr s1=>r=none/\R (.ok (.ret .none)) s1) (λ_ _=>False) s:=by
   unfold pyNext
   refine wpAny_bind (wpAny_attempt (wpAny_callSpecial?_slot (name:=ofString "__next__") hT F.slot_zip_next (wpAny_call_entry F.slot_zip_next hT F.entry_zip_next ?_ (F.args_zip_next_1 _))))
   cases i with
   | zero =>
    obtain ⟨z0,a,b,t0⟩:=za
    refine dt' bP' D z0 Ta t0 P P' vH U' (λx y hx=>?_) λ_=>⟨hh,λg x kk is=>ak g x kk is⟩
    rw [hG] at hx;cases hx
   | succ i =>
    obtain ⟨T,b,z1,al⟩:=za
    refine hR' bP' D z1 al Ta P P' vH U' (λx y hx=>?_) λ_=>⟨hh,λg x kk is=>ak g x (λc o h=>kk c o ⟨h.1,h.2.2⟩) is⟩
    rw [hG] at hx;cases hx
  refine wpAny_bind (m:=pyNext (.ref z)) (wpAny_mono next (λr s1 h=>?_) λ_ _ x=>x.elim)
  obtain ⟨rfl,h⟩:=h
  exact wpAny_pure h
 | succ k ih =>
  intro i s H aK us c hk hi I hf za Ta P P' vH U' iP rv rl zk
  have lt:i < xs.length:=by omega
  refine codeAny_builtin F.entry_extend_loop ?_
  rw [under_plainId F.plain_extend_loop _]
  have dx:xs.drop i=xs[i]::xs.drop (i+1):=drop_eq_getElem_cons lt
  have dy:ys.drop i=ys[i]'(by omega)::ys.drop (i+1):=drop_eq_getElem_cons (by omega)
  rw [dx,dy] at zk
  obtain ⟨u1,e1,e2⟩:=r1.get (getElem?_eq_getElem lt)
  obtain ⟨u2,e3,e4⟩:=r2.get (getElem?_eq_getElem (show i < ys.length by omega))
  have f1:af.toArray[i]?=some u1:=by simpa using e1
  have f2:aX.toArray[i]?=some u2:=by simpa using e3
  have dY:S < s.heap.objs.size:=lt_size iP
  have nT:∀ {b:Addr}{o:Obj},s.heap.get? b=some o->b≠s.heap.objs.size:=λe=>ne_of_lt (lt_size e)
  have hT:s.TypeIs (.ref z) "zip":=by
   cases i with
   | zero=>exact ⟨_,za.1,rfl⟩
   | succ i=>obtain ⟨T,b,z1,_⟩:=za;exact ⟨_,z1,rfl⟩
  have cY:z < s.heap.objs.size:=by
   cases i with
   | zero=>exact lt_size za.1
   | succ i=>obtain ⟨T,b,z1,_⟩:=za;exact lt_size z1
  have go:∀ (g:Heap) (b:Bool) (T:Addr),IsPair g s.heap.objs.size u1 u2->IsZip1 g z ta aF (rawInt T) (.bool b)->(∃ o,g.get? T=some o)->g.IsListIter p u (i+1)/\g.IsListIter q v (i+1)->(∀ c o,(c≠z/\c≠aF/\c≠p/\c≠q)->s.heap.get? c=some o->g.get? c=some o) →
    wpAny (model X.prog X.w) A.in1 (updateSeq S (·.push (.ref s.heap.objs.size)) >>= λ_=>(again (.builtin "list.extend.loop" ⟨[.ref S,.ref z,.none],[]⟩):Sem PySem.Fin)) (λfin s'=>match fin with
     | .done f=>R (.ok f) s'
     | .again c'=>c'.quiet=true/\codeAny (model X.prog X.w) A c' R s') (λe s'=>R (.error e) s') { s with heap:=g }:=λg b T pT z1 al its' kk=>by
   have dz:=kk S _ ⟨s1,s3,s4,s5⟩ iP
   have vA:us.length=i:=by rw [← rv.length];exact rl
   have I1:Inv X aa U (upd H s.heap.objs.size (.tup [xs[i],ys[i]'(by omega)])) { s with heap:=g }:=eM' (t':=s.toks) I (ch:=[z,aF,p,q]) (λb hb=>(hf b (by simp only [mem_cons,not_mem_nil,or_false] at hb ⊢;rcases hb with h | h | h | h<;>simp [h])).1) (λb u hb e=>by
    simp only [mem_cons,not_mem_nil,or_false,not_or] at hb
    exact kk b u hb e) (le_refl _) ⟨by show 2<=sizeLine;rw [sizeLine_eq];decide,[u1,u2],.cons e2 (.cons e4 .nil),⟨_,pT,rfl,_,rfl⟩⟩
   have gl:s.heap.objs.size < g.objs.size:=lt_size pT
   have fp:∀ b∈[z,ta,aF,p,q,S],FpOk X aa (upd H s.heap.objs.size (.tup [xs[i],ys[i]'(by omega)])) b/\b < s.heap.objs.size:=λb hb=>by
    have h0:=hf b hb
    exact ⟨⟨by rw [ae' (ne_of_lt h0.2)];exact h0.1.1,h0.1.2⟩,h0.2⟩
   have nz:∀ {f:Obj->Obj}{b:Addr}{o:Obj},b≠S->g.get? b=some o->(g.update S f).get? b=some o:=λne e=>(get?_update_other _ _ (Ne.symm ne)).trans e
   refine wpAny_bind (wpAny_updateSeq dz rfl (wpAny_pure ⟨plainId_quiet F.plain_extend_loop _,?_⟩) (by rw [size_toArray];omega) (by rw [Array.size_push,size_toArray];omega))
   have fS:=(fp S (by simp)).1
   have I2:Inv X aa U (upd H s.heap.objs.size (.tup [xs[i],ys[i]'(by omega)])) { s with heap:=g.update S (mapSeq (·.push (.ref s.heap.objs.size))) }:=bI' (s:={ s with heap:=g }) (t':=s.toks) I1 (ch:=[S]) (λb hb=>by rw [mem_singleton.mp hb];exact fS) λb u hb e=>nz (by simpa using hb) e
   have rO:(g.update S (mapSeq (·.push (.ref s.heap.objs.size)))).objs.size=g.objs.size:=size_update ..
   have own:=get?_update_self (mapSeq (·.push (Value.ref s.heap.objs.size))) dz rfl
   obtain ⟨c',oh⟩:∃ c',(g.update S (mapSeq (·.push (Value.ref s.heap.objs.size)))).get? S=some { cls:=.type "list", dict:=none,data:=.seq (us++[Value.ref s.heap.objs.size]).toArray c',slots:=#[] }:=⟨_,by
    have:(us++[Value.ref s.heap.objs.size]).toArray=us.toArray.push (.ref s.heap.objs.size):=by simp
    rw [this]
    exact own⟩
   refine ih (i+1) _ _ (aK++[.ref s.heap.objs.size]) (us++[.ref s.heap.objs.size]) c' (by omega) lt I2 (λb hb=>⟨(fp b hb).1,by rw [rO];exact lt_trans (fp b hb).2 gl⟩) ⟨T,b,nz (Ne.symm s1) z1,?_⟩ (nz (Ne.symm s2) (kk ta _ ⟨D.TIz,D.TITO,D.TIi1,D.TIi2⟩ Ta))
    (its'.1.at λo e=>nz (Ne.symm s4) e) (its'.2.at λo e=>nz (Ne.symm s5) e) (vH.at λo e=>nz (Ne.symm s6) (kk u o ⟨D.l1z,D.l1TO,D.l1i1,D.l1i2⟩ e)) (U'.at λo e=>nz (Ne.symm s7) (kk v o ⟨D.l2z,D.l2TO,D.l2i1,D.l2i2⟩ e)) oh (gA' (x:=.ref s.heap.objs.size) (u:=.ref s.heap.objs.size) rv rfl) (by simp [rl]) ?_
   ·obtain ⟨o,ho⟩:=al
    by_cases e:T=S
    ·subst e;exact ⟨_,own⟩
    ·exact ⟨o,nz e ho⟩
   ·exact zk _ (I.hok.fresh (le_refl _))
  refine wpAny_bind (m:=pyNext (.ref z)) ?_
  unfold pyNext
  refine wpAny_bind (wpAny_attempt (wpAny_callSpecial?_slot (name:=ofString "__next__") hT F.slot_zip_next (wpAny_call_entry F.slot_zip_next hT F.entry_zip_next ?_ (F.args_zip_next_1 _))))
  cases i with
  | zero =>
   obtain ⟨z0,a,b,t0⟩:=za
   refine dt' bP' D z0 Ta t0 P P' vH U' (λx y hx hy g ⟨_,b5⟩ b1 b2 b3 b7=>?_) λnon=>?_
   ·rw [f1] at hx;cases hx
    rw [f2] at hy;cases hy
    exact ⟨_,rfl,wpAny_pure (go g false _ b5 b1 ⟨_,b5⟩ b3 b7)⟩
   ·rw [f1,f2] at non
    rcases non with non | non<;>cases non
  | succ i =>
   obtain ⟨T,b,z1,al⟩:=za
   refine hR' bP' D z1 al Ta P P' vH U' (λx y hx hy g b5 b1 b3 b7=>?_) λnon=>?_
   ·rw [f1] at hx;cases hx
    rw [f2] at hy;cases hy
    refine ⟨_,rfl,wpAny_pure (go g true T b5 b1 ?_ b3 λc o h=>b7 c o ⟨h.1,h.2.2⟩)⟩
    obtain ⟨o,ho⟩:=al
    by_cases t1:T=z
    ·subst t1;exact ⟨_,b1⟩
    ·by_cases t2:T=p
     ·subst t2;obtain ⟨o',e,_⟩:=b3.1;exact ⟨o',e⟩
     ·by_cases t3:T=q
      ·subst t3;obtain ⟨o',e,_⟩:=b3.2;exact ⟨o',e⟩
      ·exact ⟨o,b7 T o ⟨t1,t2,t3⟩ ho⟩
   ·rw [f1,f2] at non
    rcases non with non | non<;>cases non
end
theorem jS':typeLookup (.type "zip") "__len__"=pure none:=by rw [typeLookup_type,builtinLookup_eq_fast];kernel_rfl
theorem iy':typeLookup (.type "zip") "__length_hint__"=pure none:=by rw [typeLookup_type,builtinLookup_eq_fast];kernel_rfl
section
variable {X:Cx}{B:BB}{a b e:Expr}{pos p:Pos}{aa:List (Addr×Obj)}{U:L2.St}{H:Hp}{s:Shared}
theorem jT' (hc:X.calm=true) (I:Inv X aa U H s){l1 l2:Addr}{xs ys:List V} (h1:SqL X.K H l1 xs) (h2:SqL X.K H l2 ys) (hl:xs.length=ys.length) (hz:xs.length < sizeLine){Q:VK}
  (zk:zipK xs ys H [] λaK H'=>∀ l,H' l=none->Q (.ref l) (upd H' l (.lst aK))) :
  wpAny (model X.prog X.w) X.A (call (.type "zip") [.ref l1,.ref l2]) (λv s1=>wpAny (model X.prog X.w) X.A (call (.type "list") [v]) (EP X aa U Q) X.xe s1) X.xe s:=by
 have hh:=I.ok.hd hc
 obtain ⟨af,r1,t1,_⟩:=I.list h1
 obtain ⟨aX,r2,t2,_⟩:=I.list h2
 have U0:s.heap.IsList l1 af.toArray:=t1.isList
 have V0:s.heap.IsList l2 aX.toArray:=t2.isList
 refine gp' bP' U0 V0 λn h' hn a1 a2 a3 a4 a5 a6=>?_
 have I1:Inv X aa U H { s with heap:=h' }:=I.kept (t':=s.toks) a6
 have oj:l1 < n:=by rw [hn];exact bP'.sqLt U0
 have om:l2 < n:=by rw [hn];exact bP'.sqLt V0
 have up:∀ m,FpOk X aa H (n+m):=λm=>by rw [hn];exact I.fpOk (le_add_right _ _) (I.hok.fresh (le_add_right _ _))
 have cY:n+4 < h'.objs.size:=lt_size a1
 have D:=zipApart_new oj om
 obtain ⟨S,eS⟩:∃ S,S=h'.objs.size:=⟨_,rfl⟩
 refine callType_codes (Q₁:=λobj au=>obj=.ref S/\au={ s with heap:=h'.push { cls:=.type "list", data:=.seq #[] } }) F.called_list (F.typeCall_list_1 _) F.entry_list_init (code_list_new _ ⟨by rw [eS],rfl⟩) λobj au fB=>?_
 obtain ⟨rfl,rfl⟩:=fB
 have cb:(h'.push { cls:=.type "list", data:=.seq #[] }).get? S=some { cls:=.type "list", data:=.seq #[] }:=by rw [eS];exact get?_push_size _ rfl
 refine ⟨⟨_,cb,rfl⟩,F.args_list_init_2 _ _,?_⟩
 have bJ:∀ b o,h'.get? b=some o->(h'.push { cls:=.type "list", data:=.seq #[] }).get? b=some o:=λb o e=>get?_push_of_some _ e
 obtain ⟨g1,bQ⟩:∃ g1,g1=h'.push { cls:=.type "list", data:=.seq #[] }:=⟨_,rfl⟩
 rw [← bQ] at cb bJ
 rw [← bQ]
 refine wpAny_bind (m:=Builtin.List.listItems (.ref S)) (wpAny_bind (m:=seqItems? (.ref S)) (wpAny_seqItems (s:={ s with heap:=g1 }) cb rfl (wpAny_pure ?_)))
 refine wpAny_bind (m:=updateSeq S λ_=>#[]) (wpAny_updateSeq cb rfl ?_)
 have cf:=get?_update_self (mapSeq (λ_=>(#[]:Array Value))) cb rfl
 have b9:∀ {g:Heap}{f:Obj->Obj} (b:Addr) (o:Obj),b≠S->g.get? b=some o->(g.update S f).get? b=some o:=λb o hb e=>(get?_update_other _ _ (Ne.symm hb)).trans e
 obtain ⟨g2,bR⟩:∃ g2,g2=g1.update S (mapSeq (λ_=>(#[]:Array Value))):=⟨_,rfl⟩
 have k2:∀ b o,b≠S->g1.get? b=some o->g2.get? b=some o:=λb o hb e=>by rw [bR];exact b9 b o hb e
 rw [← bR] at cf ⊢
 refine wpAny_bind (wpAny_letGo ?_)
 have nS:∀ b,b < h'.objs.size->b≠S:=λb hb=>by rw [eS];exact ne_of_lt hb
 have z2:IsZip g2 (n+4) (n+2) (n+3) .none:=k2 _ _ (nS _ cY) (bJ _ _ a1)
 have hT2:Shared.TypeIs { s with heap:=g2 } (.ref (n+4)) "zip":=⟨_,z2,rfl⟩
 unfold listExtendWith
 refine wpAny_bind (wpAny_typeOf hT2 ?_)
 have c1:listSameRef (.ref S) (.ref (n+4))=false:=by simp [listSameRef,Ne.symm (nS _ cY)]
 have c2:(type "zip" == type "list")=false:=by decide
 have c3:(type "zip" == type "tuple")=false:=by decide
 simp only [c1,c2,c3,Bool.or_false,false_eq_true,if_false]
 refine wpAny_bind (wpAny_pyIter_zip z2 ?_)
 refine wpAny_bind (wpAny_holding (wpAny_bind (m:=specialOf (.ref (n+4)) "__len__") (wpAny_specialOf hT2 jS' (wpAny_bind (m:=specialOf (.ref (n+4)) "__length_hint__") (wpAny_specialOf hT2 iy' (wpAny_pure ?_))))))
 refine wpAny_bind (m:=rule _) (wpAny_rule (wpAny_bind (m:=listTouch (.ref S)) ?_))
 refine wpAny_bind (m:=updateSeq S (·.push .none)) (wpAny_updateSeq (s:={ s with heap:=g2 }) cf rfl ?_ (by simp) (by simp))
 have cB:=get?_update_self (mapSeq (·.push Value.none)) cf rfl
 refine wpAny_updateSeq cB rfl ?_ (by show (#[Value.none]:Array Value).size<=_;rw [sizeLine_eq];decide) (by simp)
 have cg:=get?_update_self (mapSeq (·.pop)) cB rfl
 obtain ⟨g4,d8⟩:∃ g4,g4=(g2.update S (mapSeq (·.push Value.none))).update S (mapSeq (·.pop)):=⟨_,rfl⟩
 rw [← d8] at cg
 show wpAny _ _ _ _ _ { s with heap:=Heap.update (Heap.update g2 _ _) _ _ }
 rw [← d8]
 have k4:∀ b o,b≠S->h'.get? b=some o->g4.get? b=some o:=λb o hb e=>by rw [d8];exact b9 b o hb (b9 b o hb (k2 b o hb (bJ b o e)))
 have kk:∀ b o,h'.get? b=some o->g4.get? b=some o:=λb o e=>k4 b o (nS b (lt_size e)) e
 have I4:Inv X aa U H { s with heap:=g4 }:=I.kept (t':=s.toks) λb o e=>kk b o (a6 b o e)
 have fS:FpOk X aa H S:=by rw [eS];exact I1.fpOk (le_refl _) (I1.hok.fresh (le_refl _))
 have dY:S < g4.objs.size:=lt_size cg
 have low:∀ m,m<=4->n+m < g4.objs.size/\n+m≠S:=λm hm=>⟨by omega,nS _ (by omega)⟩
 refine wpAny_pure ⟨plainId_quiet F.plain_extend_loop _,mM' (A:=X.A.in1) (Qf:=λaK H'=>∀ l,H' l=none->Q (.ref l) (upd H' l (.lst aK))) D hh r1 r2 hl hz ?_ (λs' H' aK us c J f hS rv rl q=>?_) xs.length 0 { s with heap:=g4 } H [] [] _ (by omega) (zero_le _) I4 (λb hb=>?_) ⟨kk _ _ a1,_,_,kk _ _ a3⟩ (kk _ _ a2)
  (a4.at λo e=>kk _ o e) (a5.at λo e=>kk _ o e) (U0.at λo e=>kk _ o (a6 _ o e)) (V0.at λo e=>kk _ o (a6 _ o e)) cg .nil rfl zk⟩
 ·simp only [mem_cons,not_mem_nil,or_false,not_or]
  exact ⟨Ne.symm (low 4 (by omega)).2,Ne.symm (low 2 (by omega)).2,Ne.symm (low 3 (by omega)).2,Ne.symm (low 0 (by omega)).2,Ne.symm (low 1 (by omega)).2,Ne.symm (nS l1 (lt_trans oj (Nat.lt_of_le_of_lt (le_add_right n 4) cY))),Ne.symm (nS l2 (lt_trans om (Nat.lt_of_le_of_lt (le_add_right n 4) cY)))⟩
 ·refine ⟨rfl,.ref S,_,gz' (o:=.lst aK) J f ⟨by rw [rl];omega,us,c,rv,hS⟩,rfl,q S f.1⟩
 ·simp only [mem_cons,not_mem_nil,or_false] at hb
  rcases hb with h | h | h | h | h | h
  ·rw [h];exact ⟨up 4,(low 4 (by omega)).1⟩
  ·rw [h];exact ⟨up 2,(low 2 (by omega)).1⟩
  ·rw [h];exact ⟨up 3,(low 3 (by omega)).1⟩
  ·rw [h];exact ⟨up 0,(low 0 (by omega)).1⟩
  ·rw [h];exact ⟨up 1,(low 1 (by omega)).1⟩
  ·rw [h];exact ⟨fS,dY⟩
theorem jU' {ta:TA}{p p2 bf:Pos} (hc:X.calm=true) (hl:Gl X "list") (eU:X.mg "list"=none) (hg:Gl X "zip") (hm:X.mg "zip"=none) (ha:PA X [a,b] ta)
  (hs:starEach [a,b] X.env=[(false,eval a X.env),(false,eval b X.env)]:=by rfl) (bA:starEach [b] X.env=[(false,eval b X.env)]:=by rfl) (dO:starEach [.Call (.Name "zip" p2) [a,b] [] bf] X.env=[(false,eval (.Call (.Name "zip" p2) [a,b] [] bf) X.env)]:=by rfl) :
  PE X (.Call (.Name "list" p) [.Call (.Name "zip" p2) [a,b] [] bf] [] pos) (λU H Q=>ta U H λvs H1=>∃ l1 l2 xs ys,vs=[.ref l1,.ref l2]/\SqL X.K H1 l1 xs/\SqL X.K H1 l2 ys/\xs.length=ys.length/\xs.length < sizeLine ∧
   zipK xs ys H1 [] λaK H'=>∀ l,H' l=none->Q (.ref l) (upd H' l (.lst aK))):=by
 intro aa s U H Q I h
 refine Call_ (aW' I hl eU boot_list (PyProof.Rows.callWith_type1 ?_ dO rfl))
 rw [dO]
 refine Calls.spliced_cons (Call_ (aW' I hg hm boot_zip (PyProof.Rows.callWith_type1 (thn (ha bf aa s U H _ I h) λus s1 ⟨vs,H1,I1,r1,q1⟩=>?_) (by rw [hs,bA]) (by rw [bA];rfl))))
 obtain ⟨l1,l2,xs,ys,rfl,h1,h2,hl,hz,zk⟩:=q1
 obtain ⟨u1,u2,rfl,e1,e2⟩:=r1.two
 cases e1;cases e2
 exact thn (jT' hc I1 h1 h2 hl hz zk) λv s2 q=>Calls.spliced_nil q
noncomputable def zipLF (ds:List D):Option (List D):=match ds with
 | [.lst xs,.lst ys]=>if xs.length=ys.length/\xs.length<=1000 then some (pairsD xs ys) else none
 | _=>none
theorem hS' {K:PySem.W.Frag}{B:BB}{G:Hp}{Z:Gm}{Qf:List V->Hp->Prop}:∀ (ds es:List D) (xs ys:List V) (H I:Hp) (am:List V) (cC:List D),ds.length=es.length->Rep K B G I H U Z->IsA K I ds xs->IsA K I es ys->IsA K I cC am →
  (∀ aK H' I',Rep K B G I' H' U Z->Grow G I I'->IsA K I' (cC++pairsD ds es) aK->Qf aK H')->zipK xs ys H am Qf
 | [],es,xs,ys,H,I,am,cC,hl,r,hx,hy,ha,k=>by
  rw [hx.nil_inv]
  have:pairsD [] es=[]:=by simp [pairsD]
  rw [this,append_nil] at k
  cases ys<;>exact k am H I r (Grow.refl _ _) ha
 | d::ds,[],xs,ys,H,I,am,cC,hl,r,hx,hy,ha,k=>by cases hl
 | d::ds,e::es,xs,ys,H,I,am,cC,hl,r,hx,hy,ha,k=>by
  obtain ⟨x,xr,rfl,x1,x2⟩:=hx.cons_inv
  obtain ⟨y,yr,rfl,y1,y2⟩:=hy.cons_inv
  intro p hp
  have r1:=r.alloc hp (.tup [x,y])
  have g1:=r.growAlloc hp (.tup [x,y])
  have m:=g1.up
  refine hS' ds es xr yr _ _ _ (cC++[.tup [d,e]]) (Nat.succ.inj hl) r1 (x2.mono m) (y2.mono m) ?_ λaK H' I' r' g' h'=>k aK H' I' r' (g1.trans g') ?_
  ·refine IsA.append (ha.mono m) (IsA.cons ?_ IsA.nil)
   exact Is.tup (SqT.of ag') (IsA.cons (x1.mono m) (IsA.cons (y1.mono m) IsA.nil))
  ·have:cC++pairsD (d::ds) (e::es)=(cC++[.tup [d,e]])++pairsD ds es:=by simp [pairsD]
   rw [this]
   exact h'
theorem jV' {t:M (List D)}{p p2 bf:Pos} (hc:X.calm=true) (hl:Gl X "list") (eU:X.mg "list"=none) (hg:Gl X "zip") (hm:X.mg "zip"=none) (ha:AD X B [a,b] t)
  (hs:starEach [a,b] X.env=[(false,eval a X.env),(false,eval b X.env)]:=by rfl) (bA:starEach [b] X.env=[(false,eval b X.env)]:=by rfl) (dO:starEach [.Call (.Name "zip" p2) [a,b] [] bf] X.env=[(false,eval (.Call (.Name "zip" p2) [a,b] [] bf) X.env)]:=by rfl) :
  EO X B (.Call (.Name "list" p) [.Call (.Name "zip" p2) [a,b] [] bf] [] pos) (fn1 zipLF t):=PE.imp (jU' hc hl eU hg hm ha hs bA dO) λU H Q q=>by
 obtain ⟨G,I,Z,ds,aj,r,e1,k⟩:=q
 obtain ⟨d,ae,e2,e3⟩:=ac' e1
 obtain ⟨e4,rfl⟩:=am' e3
 refine ⟨G,I,Z,_,_,r,e2,λvs H1 I1 r1 g1 hd=>?_⟩
 unfold zipLF at e4
 split at e4
 ·obtain ⟨ok,rfl⟩:=aq' e4
  obtain ⟨x,y,rfl,hx,hy⟩:=hd.two
  obtain ⟨l1,xs,rfl,h1,h2⟩:=ar' hx
  obtain ⟨l2,ys,rfl,h3,h4⟩:=ar' hy
  have n1:=h2.length
  have n2:=h4.length
  refine ⟨l1,l2,xs,ys,rfl,(Same.rdK r1.iH h1).sq,(Same.rdK r1.iH h3).sq,by omega,by rw [sizeLine_eq];omega,hS' _ _ xs ys H1 I1 [] [] ok.1 r1 h2 h4 IsA.nil λaK H' I' r' g' h' l hl=>?_⟩
  exact (k.after (g1.trans g')).new r' hl h'
 ·cases e4
end
section
variable {X:Cx}{B:BB}{pos p p1:Pos}{kr:Nat}
inductive KX (X:Cx):List Expr->M (List D)->Prop
 | nil:KX X [] nilA
 | int {i:Int} {a b es t}:KX X es t->KX X (.Constant (.int i) a b::es) (consA (ret (.int i)) t)
 | bl {i:Bool} {a b es t}:KX X es t->KX X (.Constant (.bool i) a b::es) (consA (ret (.bl i)) t)
 | non {a b es t}:KX X es t->KX X (.Constant .none a b::es) (consA (ret .non) t)
 | str {i:Str} {a b es t}:KX X es t->KX X (.Constant (.str i) a b::es) (consA (ret (.str i)) t)
 | neg {i:Int} {a b p es t}:KX X es t->KX X (.UnaryOp .USub (.Constant (.int i) a b) p::es) (consA (un1 negI (ret (.int i))) t)
 | pow {i j:Int} {a b a' b' p es t}:KX X es t->KX X (.BinOp (.Constant (.int i) a b) .Pow (.Constant (.int j) a' b') p::es) (consA (op2 powI (ret (.int i)) (ret (.int j))) t)
 | nm {z p i es t}:PE X (.Name z p) (tVar i)->KX X es t->KX X (.Name z p::es) (consA (nm i) t)
 | tup {fs u x p es t}:KX X fs u->KX X es t->KX X (.Tuple fs x p::es) (consA (tupA u) t)
 | lst {fs u p es t}:KX X fs u->KX X es t->KX X (.List fs p::es) (consA (frz (lstA u)) t)
theorem KX.ad {es:List Expr}{t:M (List D)} (h:KX X es t):AD X B es t:=by
 induction h with
 | nil=>exact ad'
 | int _ ih=>exact ab' aa' ih rfl
 | bl _ ih=>exact ab' bj' ih rfl
 | non _ ih=>exact ab' pC' ih rfl
 | str _ ih=>exact ab' pD' ih rfl
 | neg _ ih=>exact ab' (bn' aa') ih rfl
 | pow _ ih=>exact ab' (hu' aa' aa') ih rfl
 | nm h _ ih=>exact ab' (nw' h) ih rfl
 | tup _ _ ih1 ih2=>exact ab' (bz' ih1) ih2 rfl
 | lst _ _ ih1 ih2=>exact ab' (au' (aX' ih1)) ih2 rfl
end
end DL
namespace L2
open PySem PySem.Spec PyProof.Rows
theorem gB' {p p':Pos}{c cv:Value}:∀ (l:List Value),TriplesOk l->codeAmong p' (l++[rawInt p.line,rawInt p.col,c])=some cv->codeAmong p' l=some cv\/cv=c
 | [],_,h=>by
  right
  simp only [nil_append,codeAmong,rawInt] at h
  split at h
  ·exact (Option.some.inj h).symm
  ·cases h
 | .int a t::.int b u::x::r,ok,h=>by
  simp only [List.cons_append,codeAmong] at h ⊢
  split at h
  ·rename_i q
   rw [if_pos q]
   exact .inl h
  ·rename_i q
   rw [if_neg q]
   exact gB' r ok h
theorem eD' {a b:Int}{c:Value}:∀ (l:List Value),TriplesOk l->TriplesOk (l++[rawInt a,rawInt b,c])
 | [],_=>trivial
 | .int _ _::.int _ _::x::r,ok=>eD' r ok
section
variable {X:Cx}{aa:List (Addr×Obj)}{U:St}{H:Hp}{s:Shared}
theorem oD' {h':Heap}{t':Nat}{P c:Addr}{q:Str}{ps:Array Value}{pos:Pos}{oc:Obj}{vs:Array Value}{t:Tok} (I:Inv X aa U H s) (hP:H P=some (.tbl q)) (eW:s.heap.get? P=some { cls:=.none,data:=.fields ps }) (ok:TriplesOk ps.toList)
  (hx:Heap.ExtBut P s.heap h') (hc:s.heap.objs.size<=c) (ec:h'.get? c=some oc) (hd:oc.data=.fields vs) (hv:vs[1]?=some (.str q t)) (oo:h'.get? P=some { cls:=.none,data:=.fields (ps++#[rawInt pos.line,rawInt pos.col,.ref c]) }) :
  Inv X aa U (upd H c (.frz oc (.own P))) { s with heap:=h',toks:=t' }:=by
 have hf:=I.hok.fresh hc
 have ne:∀ {b u},H b=some u->b≠c:=λ{b u} e=>aD' e hf
 have nP:∀ {b},H b=none->b≠P:=λ{b} n z=>by rw [z,hP] at n;cases n
 have old:∀ {q':Str}{az:Pos}{cv:Value},codeAmong az ps.toList=some cv->∃ c oc vs t,cv=.ref c/\H c=some (.frz oc (.own P))/\oc.data=.fields vs/\vs[1]?=some (.str q t):=λ{q' az cv} e=>by
  obtain ⟨dZ,e1,_,e3⟩:=(show ObjOk X.prog X.w H s.heap P (.tbl q) from I.hok P _ hP)
  rw [eW] at e1
  cases e1
  exact e3 _ _ e
 have:=I.step (H':=upd H c (.frz oc (.own P))) (h':=h') (g':=s.gens) (d':=s.drawn) (t':=t') (ch:=[]) (λb z=>nomatch z) (λb o _ _ _ e n=>hx b o (nP n) e) (λb o _ _ _ e n=>⟨o.slots,hx b o (nP n) e⟩)
  (λb o _ e n=>by rw [ae' (ne_of_lt (lt_of_lt_of_le (lt_size e) hc))];exact n) (λb o _ e=>by
   by_cases z:b=P
   ·exact ⟨_,by rw [z];exact oo⟩
   ·exact ⟨o,hx b o z e⟩) (λb xs e=>by rw [ae' (ne e)];exact e) (λb o u e=>by rw [ae' (ne e)];exact e) (λb q' e=>by rw [ae' (ne e)];exact e)
  (λm hm=>by
   obtain ⟨o,es,ep,e,r⟩:=hm
   exact ⟨o,es,ep,hx _ o (nP I.free) e,r⟩) (λb u e=>?_) I.bare
 ·exact this
 ·by_cases hb:b=c
  ·subst hb
   rw [ag'] at e
   cases e
   exact ⟨ec,oc,ec⟩
  ·rw [ae' hb] at e
   by_cases hbP:b=P
   ·subst hbP
    rw [hP] at e
    cases e
    refine ⟨_,oo,by rw [toList_append];exact eD' _ ok,λaz cv z=>?_⟩
    rw [toList_append] at z
    rcases gB' _ ok z with z | z
    ·obtain ⟨c',rP,gN,t',e1,e2,e3⟩:=old (q':=q) z
     exact ⟨c',rP,gN,t',e1,by rw [ae' (ne e2)];exact e2,e3⟩
    ·exact ⟨c,oc,vs,t,z,ag',hd,hv⟩
   ·refine (I.hok b u e).stay (λd v hd q=>hx d v ?_ q) (λd q=>by rw [ae' (ne q)];exact q) (λd xs q=>by rw [ae' (ne q)];exact q) λd o u q=>by rw [ae' (ne q)];exact q
    rcases hd with z | z
    ·rw [z];exact hbP
    ·intro y;rw [y,hP] at z;cases z
end
noncomputable abbrev lamObj (params:Arguments) (body:Expr) (scope:Scope) (cl:List (Str×Addr)) (pm cv bp:Value):Obj :=
 { cls:=.type "function", data:=.func (kla_fn "<lambda>" "few_of.<locals>.<lambda>" params body scope cl pm cv bp) }
section
variable {X:Cx}{aa:List (Addr×Obj)}{U:St}{H:Hp}{s:Shared}{params:Arguments}{body:Expr}{scope:Scope}{dE:Pos}
def Code1 (H:Hp) (cv:Value):Prop:=∃ c oc P vs t,cv=.ref c/\H c=some (.frz oc (.own P))/\oc.data=.fields vs/\vs[1]?=some (.str "few_of.<locals>.<lambda>" t)
theorem Code1.rec' {cv:Value} (h:Code1 H cv) (ok:HOk X.prog X.w H s.heap):s.heap.CodeRec cv "few_of.<locals>.<lambda>":=by
 obtain ⟨c,oc,P,vs,t,rfl,e,d,v⟩:=h
 obtain ⟨ho,_⟩:=(show ObjOk X.prog X.w H s.heap c (.frz oc (.own P)) from ok c _ e)
 exact ⟨c,oc,vs,t,rfl,ho,d,v⟩
theorem mN' {c P:Addr}{d9:List (Str×Addr)} (I:Inv X aa U H s) (ht:tabIn X.K "few_of"=some (c,P)) (cy:X.env.code=.ref c) (hq:X.env.qual = "few_of.<locals>.") (ee:defaultsOf params X.env=([],[])) (cw:closureFor scope X.env=pure d9){Q:Value->Shared->Prop}
  (k:∀ f H' s' pm cv bp,Inv X aa U H' s'->(H'=H\/∃ c' oc,H c'=none/\H'=upd H c' (.frz oc (.own P)))->Code1 H' cv->s.heap.objs.size<=f->H' f=none->s'.heap.get? f=some (lamObj params body scope d9 pm cv bp)->Q (.ref f) s') :
  wpAny (model X.prog X.w) X.A (eval (.Lambda params body scope dE) X.env) Q X.xe s:=by
 have q2:X.env.qual ++ "<lambda>" = "few_of.<locals>.<lambda>":=by rw [hq];decide
 refine PySem.W.kla_eval ee ?_
 rw [q2]
 have hP:H P=some (.tbl "few_of.<locals>.<lambda>"):=I.base.tbls P _ (I.ok.tb c P ht)
 obtain ⟨ps,eW,ok,en⟩:=(show ObjOk X.prog X.w H s.heap P (.tbl "few_of.<locals>.<lambda>") from I.hok P _ hP)
 have hg:=I.ok.mod.glob.keeps I.bk
 have C:=(I.ok.mod.cod c P ht).keeps I.bk
 have rQ:mainGlobals≠P:=λz=>by
  obtain ⟨o,es,ep,e,hd,_⟩:=hg
  rw [z,eW] at e;cases e;cases hd
 have hb:s.heap.BuiltinsAt X.mg P:=by
  obtain ⟨bm,ob,b1,b2,b3,b4,b5,b6⟩:=I.ok.mod.bm
  refine ⟨bm,ob,b1,b2,λz=>?_,λz=>?_,I.bk _ _ b3,b4,b5,b6⟩
  ·obtain ⟨o,es,ep,e,hd,_⟩:=hg
   rw [← z,I.bk _ _ b3] at e;cases e;rw [b6] at hd;cases hd
  ·have:=I.bk _ _ b3
   rw [z,eW] at this;cases this;cases b4
 cases hf:codeAmong dE ps.toList with
 | some cv =>
  refine PySem.W.kla_makeFunctionHit (mg:=X.mg) cw I.ok.glob hg cy C eW ok hf hb λbp h' tk keep sz=>?_
  have kF:∀ b o,s.heap.get? b=some o->(h'.push (lamObj params body scope d9 ((X.mg "__name__").getD .none) cv bp)).get? b=some o:=λb o e=>get?_push_of_some _ (keep b o e)
  have I2:Inv X aa U H { s with heap:=h'.push (lamObj params body scope d9 ((X.mg "__name__").getD .none) cv bp),toks:=tk }:=I.kept (t':=tk) kF
  refine k _ H _ _ cv bp I2 (.inl rfl) ?_ sz (I.hok.fresh sz) (get?_push_size _ rfl)
  obtain ⟨c',oc,vs,t,e1,e2,e3,e4⟩:=en _ _ hf
  exact ⟨c',oc,P,vs,t,e1,e2,e3,e4⟩
 | none =>
  refine PySem.W.kla_makeFunction (mg:=X.mg) cw I.ok.glob hg cy C eW ok hf rQ hb λc' bp h' tk hx kG bt oq rR=>?_
  obtain ⟨c2,oc,vs,t,e1,e2,e3,e4⟩:=oq
  cases e1
  have I1:=oD' (t':=tk) I hP eW ok hx kG e2 e3 e4 rR
  have I2:Inv X aa U _ { s with heap:=h'.push (lamObj params body scope d9 ((X.mg "__name__").getD .none) (.ref c') bp),toks:=tk }:=I1.kept (t':=tk) λb o e=>get?_push_of_some _ e
  refine k _ _ _ _ (.ref c') bp I2 (.inr ⟨c',oc,I.hok.fresh kG,rfl⟩) ⟨c',oc,P,vs,t,rfl,ag',e3,e4⟩ (le_trans kG (le_of_lt bt)) ?_ (get?_push_size _ rfl)
  exact I1.hok.fresh (le_refl _)
noncomputable abbrev envL (scope:Scope) (L f:Addr) (cv:Value) (cl:List (Str×Addr)):Env:=PySem.W.envX "few_of.<locals>.<lambda>" scope L f cv cl
noncomputable abbrev cxL (X:Cx) (A:Around) (scope:Scope) (N:List Str) (s:Shared) (H:Hp) (f:Addr) (cv:Value) (cl:List (Str×Addr)):Cx :=
 { X with A:=A.deeper (envL scope s.heap.objs.size f cv cl),N:=N,s₀:=s,H₀:=H,env:=envL scope s.heap.objs.size f cv cl,outer:=X.stack,stack:=envL scope s.heap.objs.size f cv cl::X.stack,ex:=[],fn:=λ_=>false,calm:=true,pn:=[],xe:=λ_ _=>False }
theorem mO' {A:Around}{f c0:Addr}{g y:Str}{pm cv bp u uc:Value}{v vc:V}{t:TE}{Q:VK}{R:Value->Shared->Prop}{E:Value->Shared->Prop} (I:Inv X aa U H s) (hA:Env0 X.prog X.w X.K X.mg X.base A X.stack s H) (hd:A.handled=none) (kH:A.depth < recursionLimit)
  (hf:s.heap.get? f=some (lamObj params body scope [(y,c0)] pm cv bp)) (aP:Code1 H cv) (rS:∃ z,X.env.cells.lookup z=some c0) (bM:s.heap.IsCell c0 (some uc)) (rv:RelV v u) (rc:RelV vc uc) (vC:g≠y)
  (eK:∀ u,bindArgs (kla_fn "<lambda>" "few_of.<locals>.<lambda>" params body scope [(y,c0)] pm cv bp) ⟨[u],[]⟩=pure [(g,u)]) (hk:scope.kind=.function) (rT:scope.isCoroutine=false) (ou:scope.isGenerator=false)
  (ow:scope.names.lookup g=some .local) (rV:scope.names.lookup y=some .free) (io:∀ x∈scope.names,x.2≠.cell) (dG:∀ x,scope.names.lookup x=some .free->x=y)
  (hb:PE (cxL X A scope [g,y] s H f cv [(y,c0)]) body t) (ht:t [some v,some vc] H Q)
  (k:∀ u' s',CE X.stack X.prog X.w H s Q u' s'->R u' s'):wpAny (model X.prog X.w) A (call (.ref f) [u]) R E s:=by
 refine wpAny_call (PySem.W.kla_callFunE kH hf rfl rT ou rfl (aP.rec' I.hok) ?_)
 rw [eK]
 refine wpAny_pure (wpAny_newFunctionEnv io (λx hx=>by rw [mem_singleton.mp hx];exact ow) (λfB fJ iz=>⟨(I.nolimit).fresh _ iz,?_⟩) hk)
 have old:∀ b o,s.heap.get? b=some o->fB.get? b=some o:=λb o e=>iz.extBut b o (ne_of_lt (lt_size e)) (get?_push_of_some _ e)
 have fZ:∀ x,(envL scope s.heap.objs.size f cv [(y,c0)]).kindOf x=scope.names.lookup x:=λx=>rfl
 have look:∀ x d,(envL scope s.heap.objs.size f cv [(y,c0)]).cells.lookup x=some d->x=y/\d=c0:=λx d e=>by
  have e:List.lookup x [(y,c0)]=some d:=e
  rw [List.lookup_cons] at e
  by_cases z:x=y
  ·subst z;simp at e;exact ⟨rfl,e.symm⟩
  ·have:(x == y)=false:=by simpa using z
   rw [this] at e;cases e
 have own:(envL scope s.heap.objs.size f cv [(y,c0)]).cells.lookup y=some c0:=by
  show List.lookup y [(y,c0)]=some c0
  simp
 obtain ⟨z0,rW⟩:=rS
 have ok:(cxL X A scope [g,y] s H f cv [(y,c0)]).Ok:=by
  refine ⟨hA.mod,hk,rfl,rfl,le_refl _,λa b d e1 e2=>?_,λx hx=>?_,λx d z=>(nomatch z),λ_=>hd,Around.frames_deeper hA.frames,.inr ⟨rfl,rfl⟩,λb z=>(nomatch z),hA.bs,hA.bsz,λb _ _ z=>(nomatch z),λb z=>(nomatch z),hA.funs,hA.frf,hA.tb⟩
  ·rw [(look a d e1).1,(look b d e2).1]
  ·rcases hx with hx | hx
   ·exact absurd rfl (io _ (PySem.mem_of_lookup hx))
   ·rw [dG x hx];exact ⟨c0,own⟩
 have I':Inv (cxL X A scope [g,y] s H f cv [(y,c0)]) [] [some v,some vc] H { s with heap:=fB,toks:=s.toks+1 }:=by
  refine ⟨ok,rfl,hA.bare,Un.kept old,⟨_,fJ,λi x w e1 e2 e3=>?_⟩,λx d e=>?_,I.hok.fresh (le_refl _),λx d e=>?_,λp hp=>(nomatch hp),I.hok.kept old,rfl⟩
  ·match i,e1,e2 with
   | 0,e1,e2 =>
    cases e1
    cases e2
    exact ⟨u,rv,.inl ⟨ow,by simp⟩⟩
   | 1,e1,e2 =>
    cases e1
    cases e2
    obtain ⟨o,ho,bj⟩:=bM
    exact ⟨uc,rc,.inr ⟨.inr rV,c0,own,o,old _ _ ho,bj⟩⟩
  ·rw [(look x d e).2]
   obtain ⟨o,ho,bj⟩:=bM
   exact ⟨_,o,old _ _ ho,bj⟩
  ·rw [(look x d e).2]
   exact I.freeC z0 c0 rW
 refine PySem.W.kla_codeExpr (wpAny_mono (hb [] _ _ H Q I' ht) (λv' s' h=>?_) λ_ _ x=>x.elim)
 obtain ⟨v2,H2,I2,r2,q2⟩:=h
 refine k v' s' ⟨v2,H2,I2.os,I2.bare,?_,I2.hok,r2,q2⟩
 exact I2.base
end
end L2
namespace DL
open PySem PySem.W PySem.Spec PyProof.Rows L2
noncomputable def evK {α:Type} (lt:Nat->Nat->Bool):KasT α->α
 | .ret a=>a
 | .ask i j k=>evK lt (k (lt i j))
theorem ls' {α:Type}{n:Nat}{lt:Nat->Nat->Bool}{s:Shared}{P:α->Prop}:∀ t:KasT α,t.kasWp (askIn n lt) (λa _=>P a) s->t.kasWp (askIn n lt) (λa _=>P a/\a=evK lt t) s
 | .ret a,h=>⟨h,rfl⟩
 | .ask i j k,⟨h1,h2,h3⟩=>⟨h1,h2,ls' (k (lt i j)) h3⟩
theorem jc' {α:Type}{n:Nat}{lt:Nat->Nat->Bool}{s:Shared}{P:α->Prop}:∀ t:KasT α,t.kasWp (askIn n lt) (λa _=>P a) s->P (evK lt t)
 | .ret a,h=>h
 | .ask i j k,⟨h1,h2,h3⟩=>jc' (k (lt i j)) h3
noncomputable def ltR (ks:List Int) (i j:Nat):Bool:=decide (ks.getD i 0 < ks.getD j 0)
theorem jd' (ks:List Int):Ord (ltR ks):=⟨λa b h=>by unfold ltR at h ⊢;simp at h ⊢;omega,λa b c h1 h2=>by unfold ltR at h1 h2 ⊢;simp at h1 h2 ⊢;omega⟩
noncomputable def permK (ks:List Int):Array Nat:=if ks.length < 2 then (range ks.length).toArray else evK (ltR ks) (kas_sort ks.length)
theorem bD' (s:Shared) (ks:List Int):Pm ks.length (permK ks)/\Up (ltR ks) (permK ks) ks.length:=by
 unfold permK
 split
 ·exact ⟨Array.Perm.refl _,λi j x y=>by omega⟩
 ·rename_i h
  exact jc' (s:=s) _ (fT' (jd' ks) (by omega))
noncomputable def srtK {α:Type} (d:α) (kz:List Int) (xs:List α):List α:=((permK kz.reverse).toList.map λi=>xs.reverse.getD i d).reverse
theorem oE' {α β:Type} (ks:List α) (vs:List β) (h:ks.length=vs.length):(ks.toArray.zip vs.toArray).reverse=ks.reverse.toArray.zip vs.reverse.toArray:=by
 apply Array.toList_inj.mp
 rw [Array.toList_reverse,Array.toList_zip,Array.toList_zip]
 show (ks.zip vs).reverse=ks.reverse.zip vs.reverse
 refine ext_getElem (by simp) λi h1 h2=>?_
 simp at h1
 simp [h]
section
variable {prog:Program}{w:World}{A:Around}{E:Value->Shared->Prop}{s:Shared}
theorem hT' {us:List Value}{ms:List Int} (h:IntsAre us ms):IntsAre us.reverse ms.reverse:=by
 induction h with
 | nil=>exact .nil
 | cons n t r ih =>
  rw [reverse_cons,reverse_cons]
  exact ksk_snoc ih
theorem f2':∀ {us:List Value}{ms:List Int},IntsAre us ms->∀ i,i < us.length->∃ t,us.getD i Value.none=.int (ms.getD i 0) t
 | _,_,.nil,i,h=>absurd h (not_lt_zero _)
 | _,_,.cons n t r,0,h=>⟨t,rfl⟩
 | _,_,.cons n t r,i+1,h=>by
  obtain ⟨t',e⟩:=f2' r i (Nat.lt_of_succ_lt_succ h)
  exact ⟨t',by rw [List.getD_cons_succ,List.getD_cons_succ];exact e⟩
theorem oF' {a kS:Addr}{kA vs:List Value}{kz:List Int}{e e1:Nat}{P:PySem.Fin->Shared->Prop} (hS:s.heap.get? kS=some (seqObj "list" kA.toArray e)) (hL:s.heap.get? a=some (seqObj "list" #[] e1)) (ne:kS≠a) (hk:IntsAre kA kz) (hl:kz.length=vs.length) (bx:vs.length < 64)
  (fin:∀ h' c,(∀ b o,b≠kS->b≠a->s.heap.get? b=some o->h'.get? b=some o)->h'.get? a=some (seqObj "list" (srtK Value.none kz vs).toArray c)->P (.done (.ret .none)) { s with heap:=h' }) :
  wpAny (model prog w) A (ksk_end a true vs.toArray e1 (.ref kS) kA.toArray) P E s:=by
 have line:64<=sizeLine:=by rw [sizeLine_eq];decide
 have lk:kA.length=vs.length:=by rw [hk.length];exact hl
 have lr:kA.reverse.length=vs.reverse.length:=by simp [lk]
 have fA:∀ st:SortSt,(arrOf st).map (·.2)=((permK kz.reverse).toList.map λi=>vs.reverse.getD i Value.none).toArray->failedOf st=none->wpAny (model prog w) A (ksk_tail a true e1 (.ref kS) st) P E s:=λst aO aI=>by
  unfold ksk_tail
  dsimp only
  have kI:(s.heap.update kS (mapSeq λ_=>(#[]:Array Value))).get? a=some (seqObj "list" #[] e1):=(get?_update_other _ _ ne).trans hL
  have ak:((arrOf st).map (·.2)).reverse=(srtK Value.none kz vs).toArray:=by rw [aO];simp [srtK]
  have sz:((arrOf st).map (·.2)).reverse.size<=64:=by
   rw [Array.size_reverse,aO,size_toArray,length_map,length_toList,(bD' s kz.reverse).1.size,length_reverse];omega
  refine wpAny_bind (listUpdate_at hS rfl ?_ (by rw [size_toArray];omega) (zero_le _))
  refine wpAny_bind (wpAny_letGo (wpAny_bind (seqEpoch_at kI rfl ?_)))
  refine wpAny_bind (listUpdate_at kI rfl ?_ (zero_le _) (by rw [if_pos rfl];omega))
  rw [aI]
  simp only [bne_self_eq_false,false_eq_true,if_false]
  have c2:=get?_update_seq kI λ_=>(srtK Value.none kz vs).toArray
  simp only [if_true,ak]
  exact wpAny_pure (fin _ _ (λb o n1 n2 e=>(get?_update_other _ _ (Ne.symm n2)).trans ((get?_update_other _ _ (Ne.symm n1)).trans e)) c2)
 unfold ksk_end
 simp only [↓reduceIte]
 refine wpAny_bind (wpAny_rule ?_)
 rw [oE' kA vs lk]
 by_cases h2:vs.toArray.size < 2
 ·rw [if_pos h2,if_pos h2]
  refine wpAny_bind (wpAny_pure (wpAny_bind (wpAny_pure ?_)))
  refine fA _ ?_ rfl
  rw [size_toArray] at h2
  have e1:permK kz.reverse=(range vs.length).toArray:=by
   unfold permK
   rw [length_reverse,hl,if_pos h2]
  rw [e1]
  have:=gq' vs.reverse
  unfold byP at this
  rw [length_reverse] at this
  rw [this]
  show (kA.reverse.toArray.zip vs.reverse.toArray).map (·.2)=_
  refine Array.ext (by simp [lk]) λi h3 h4=>by simp
 ·rw [if_neg h2,if_neg h2]
  rw [size_toArray] at h2
  have kk:keyKind' kA.toArray=pure oneType':=ksk_kind (by simpa using hk) (by rw [size_toArray];omega)
  rw [kk]
  have l2:2<=vs.reverse.length:=by rw [length_reverse];omega
  have n1:vs.reverse.length=kz.reverse.length:=by simp [hl]
  refine wpAny_bind (wpAny_pure (wpAny_bind (kat_run (ks:=kA.reverse) (vs:=vs.reverse) (G:=λp s'=>p=permK kz.reverse/\s'=s) (Q:=λst s'=>wpAny (model prog w) A (ksk_tail a true e1 (.ref kS) st) P E s') lr l2 (by rw [length_reverse];exact bx) (λp st s' hz aO aI h=>?_) ?_)))
  ·obtain ⟨rfl,rfl⟩:=h
   exact fA st (kat_snds lr aO) aI
  ·have ev:=ls' (s:=s) (kas_sort vs.reverse.length) (fT' (n:=vs.reverse.length) (jd' kz.reverse) l2)
   refine cE' (n:=vs.reverse.length) (lt:=ltR kz.reverse) (λi j C h1 h2 h3=>?_) (λp hp=>⟨?_,rfl⟩) _ ev
   ·obtain ⟨t1,e1⟩:=f2' (hT' hk) i (by rw [lr];exact h1)
    obtain ⟨t2,e2⟩:=f2' (hT' hk) j (by rw [lr];exact h2)
    unfold kas_ask
    rw [e1,e2]
    exact kat_lt_int h3
   ·rw [hp.2]
    unfold permK
    rw [← n1,if_neg (by omega)]
end
def keyK (ox:V->Hp->(Int->Hp->Prop)->Prop):List V->Hp->List Int->(List Int->Hp->Prop)->Prop
 | [],H,am,Q=>Q am H
 | x::xs,H,am,Q=>ox x H λk H'=>keyK ox xs H' (am++[k]) Q
def stpL (t:TE) (vc:V):V->Hp->(Int->Hp->Prop)->Prop:=λx H R=>t [some x,some vc] H λv H'=>∃ k,v=.int k/\R k H'
section
variable {X:Cx}{aa:List (Addr×Obj)}{U:L2.St}{H:Hp}{s:Shared}{params:Arguments}{body:Expr}{scope:Scope}{t:TE}{vc:V}{g y:Str}{c0 f:Addr}{pm cv bp:Value}{kb jc:Nat}
structure LamFix (X:Cx) (params:Arguments) (body:Expr) (scope:Scope) (g y:Str) (c0:Addr) (t:TE) (kb jc:Nat):Prop where
 jn:X.N[jc]?=some y
 vis:Vis X.env.scope y
 cel:X.env.kindOf y≠some .local
 cl:X.env.cells.lookup y=some c0
 ne:g≠y
 bind:∀ pm cv bp u,bindArgs (kla_fn "<lambda>" "few_of.<locals>.<lambda>" params body scope [(y,c0)] pm cv bp) ⟨[u],[]⟩=pure [(g,u)]
 kind:scope.kind=.function
 co:scope.isCoroutine=false
 gen:scope.isGenerator=false
 lg:scope.names.lookup g=some .local
 ly:scope.names.lookup y=some .free
 no:∀ x∈scope.names,x.2≠.cell
 fre:∀ x,scope.names.lookup x=some .free->x=y
 body:∀ (A:Around) (s:Shared) (H:Hp) (f:Addr) (cv:Value),Room kb (A.deeper (envL scope s.heap.objs.size f cv [(y,c0)]))->PE (cxL X A scope [g,y] s H f cv [(y,c0)]) body t
theorem mP' (hr:Room (kb+3) X.A) (L:LamFix X params body scope g y c0 t kb jc) (hv:U[jc]?=some (some vc)){a kS:Addr}{e1:Nat}{xs:List V}{af:List Value} (rv:Vals xs af) (bx:xs.length < 64) (ne:kS≠a) (nf:f≠kS/\f≠a)
  (fa:∀ H',H' a=none->FpOk X aa H' a) (fk:∀ H',H' kS=none->FpOk X aa H' kS) (rX:∀ b,b=a\/b=kS\/b=f->b∉frs X.stack){Qf:List Int->Hp->Prop}{P:PySem.Fin->Shared->Prop}{E:Value->Shared->Prop}
  (I:Inv X aa U H s) (hf:s.heap.get? f=some (lamObj params body scope [(y,c0)] pm cv bp)) (nF:H f=none) (aP:Code1 H cv) (hL:s.heap.get? a=some (seqObj "list" #[] e1)) (nL:H a=none) (hS:s.heap.get? kS=some (seqObj "list" #[] 0)) (nS:H kS=none)
  (kk:keyK (stpL t vc) xs H [] Qf)
  (fin:∀ s' H' kz c,Inv X aa U H' s'->H' a=none->s'.heap.get? a=some (seqObj "list" (srtK Value.none kz af).toArray c)->kz.length=xs.length->Qf kz H'->P (.done (.ret .none)) s') :
  wpAny (model X.prog X.w) X.A.in1.in1 (ksk_rest a (.ref f) true af.toArray e1 (.ref kS)) P E s:=by
 have line:64<=sizeLine:=by rw [sizeLine_eq];decide
 have lv:=rv.length
 unfold ksk_rest
 refine wpAny_bind (wpAny_rule ?_)
 rw [← Array.forIn_toList,show af.toArray.toList=af from rfl]
 refine wpAny_bind (ksk_fold (λi s'=>∃ H' kA e am,Inv X aa U H' s'/\s'.heap.get? f=some (lamObj params body scope [(y,c0)] pm cv bp)/\H' f=none/\Code1 H' cv/\s'.heap.get? a=some (seqObj "list" #[] e1)/\H' a=none/\s'.heap.get? kS=some (seqObj "list" (kA:List Value).toArray e)/\H' kS=none/\IntsAre kA am/\am.length=i/\keyK (stpL t vc) (xs.drop i) H' am Qf) af 0 s
  ⟨H,[],0,[],I,hf,nF,aP,hL,nL,hS,nS,.nil,rfl,kk⟩ ?step ?done)
 case step =>
  rintro j u s' hu ⟨H',kA,e,am,I,hf,nF,aP,hL,nL,hS,nS,hk,al,kk⟩
  rw [zero_add] at al kk ⊢
  have hj:j < xs.length:=by rw [lv];exact (List.getElem?_eq_some_iff.mp hu).1
  rw [drop_eq_getElem_cons hj] at kk
  obtain ⟨u',eG,ru⟩:=rv.get (getElem?_eq_getElem hj)
  rw [hu] at eG
  cases eG
  obtain ⟨m,_,lo⟩:=I.loc
  obtain ⟨uc,rc,lk⟩:=lo jc y vc L.jn hv L.vis
  have bM:s'.heap.IsCell c0 (some uc):=by
   rcases lk with ⟨z,_⟩ | ⟨_,c,z,q⟩
   ·exact absurd z L.cel
   ·rw [L.cl] at z;cases z;exact q
  have r2:Room (kb+1) X.A.in1.in1:=hr.in1.in1
  refine wpAny_bind (wpAny_attempt (mO' I I.env0.in1.in1 r2.hd (by have:=r2.dp;omega) hf aP ⟨y,L.cl⟩ bM ru rc L.ne (λu=>L.bind pm cv bp u) L.kind L.co L.gen L.lg L.ly L.no L.fre (L.body _ s' H' f cv (r2.deeper _)) kk λu2 s2 ce=>?_))
  obtain ⟨v2,H2,os,bare,un,hok,rr,k,rfl,rY⟩:=ce
  obtain ⟨hh,gg,dd,tt,et⟩:=s2
  obtain rfl:et=s'.os:=os
  obtain ⟨tk,rfl⟩:=rr
  have I2:=I.call (h':=hh) (g':=gg) (d':=dd) (t':=tt) (ch:=[]) un hok bare (λb z=>absurd z (by simp))
  have kp:∀ b o,(b=a\/b=kS\/b=f)->s'.heap.get? b=some o->H' b=none->hh.get? b=some o/\H2 b=none:=λb o hb e n=>⟨un.keep b o e n (rX b hb) (by simp),un.free b o e n (by simp)⟩
  have iQ:=kp kS _ (.inr (.inl rfl)) hS nS
  have oy:=kp a _ (.inl rfl) hL nL
  have oz:=kp f _ (.inr (.inr rfl)) hf nF
  have vD:kA.length=j:=by rw [hk.length];exact al
  dsimp only
  refine wpAny_bind (listUpdate_at (s:={ heap:=hh,gens:=gg,drawn:=dd,toks:=tt,os:=s'.os }) iQ.1 rfl ?_ (by rw [size_toArray];omega) (by rw [Array.size_push,size_toArray];omega))
  obtain ⟨c2,cR⟩:∃ c2,(hh.update kS (mapSeq (·.push (Value.int k tk)))).get? kS=some (seqObj "list" (kA++[Value.int k tk]).toArray c2):=⟨_,by
   have:(kA++[Value.int k tk]).toArray=kA.toArray.push (.int k tk):=by simp
   rw [this]
   exact get?_update_seq iQ.1 _⟩
  have nz:∀ {b:Addr}{o:Obj},b≠kS->hh.get? b=some o->(hh.update kS (mapSeq (·.push (Value.int k tk)))).get? b=some o:=λne e=>(get?_update_other _ _ (Ne.symm ne)).trans e
  have I3:Inv X aa U H2 { heap:=hh.update kS (mapSeq (·.push (Value.int k tk))),gens:=gg,drawn:=dd,toks:=tt,os:=s'.os }:=bI' (s:={ heap:=hh,gens:=gg,drawn:=dd,toks:=tt,os:=s'.os }) (t':=tt) I2 (ch:=[kS]) (λb hb=>by rw [mem_singleton.mp hb];exact fk _ iQ.2) λb u hb e=>nz (by simpa using hb) e
  have oA:Code1 H2 cv:=by
   obtain ⟨c,oc,P,vs,t,q1,q2,q3⟩:=aP
   exact ⟨c,oc,P,vs,t,q1,un.frzs _ _ _ q2,q3⟩
  exact wpAny_pure ⟨rfl,H2,kA++[.int k tk],c2,am++[k],I3,nz nf.1 oz.1,oz.2,oA,nz (Ne.symm ne) oy.1,oy.2,cR,iQ.2,ksk_snoc hk,by simp [al],rY⟩
 case done =>
  rintro s' ⟨H',kA,e,am,I,hf,nF,aP,hL,nL,hS,nS,hk,al,kk⟩
  rw [zero_add] at al kk
  rw [drop_of_length_le (by omega)] at kk
  refine wpAny_bind (listItems_at hS rfl ?_)
  refine oF' hS hL ne hk (by omega) (by omega) λh' c keep aG=>?_
  have I2:Inv X aa U H' { s' with heap:=h' }:=bI' (t':=s'.toks) I (ch:=[kS,a]) (λb hb=>by
   simp only [mem_cons,not_mem_nil,or_false] at hb
   rcases hb with h | h
   ·rw [h];exact fk _ nS
   ·rw [h];exact fa _ nL) λb u hb e=>by
   simp only [mem_cons,not_mem_nil,or_false,not_or] at hb
   exact keep b u hb.1 hb.2 e
  exact fin _ H' am c I2 nL aG (by omega) kk
end
theorem oG' (kz:List Int) (ds:List D):srtK .non kz ds=(permD (permK kz.reverse) ds.reverse).reverse:=rfl
theorem oH' (kz:List Int) (xs:List V):srtK .non kz xs=(permV (permK kz.reverse) xs.reverse).reverse:=rfl
theorem oI' {α:Type}{d:α}{kz:List Int}{xs:List α} (s:Shared):(srtK d kz xs).length=kz.length:=by
 unfold srtK
 rw [length_reverse,length_map,length_toList,(bD' s kz.reverse).1.size,length_reverse]
theorem mQ' (s:Shared){kz:List Int}{xs:List V}{af:List Value} (rv:Vals xs af) (hl:kz.length=xs.length):Vals (srtK .non kz xs) (srtK Value.none kz af):=by
 have r2:=Vals.rev rv
 have l2:=r2.length
 unfold srtK
 refine Vals.rev (cw' (by simp) λi x u e1 e2=>?_)
 obtain ⟨j,f1,rfl⟩:=getMap e1
 obtain ⟨j',f2,rfl⟩:=getMap e2
 rw [f1] at f2
 cases f2
 have hj:j < xs.reverse.length:=by
  have h1:j∈(permK kz.reverse).toList:=mem_of_getElem? f1
  have h2:=(perm_iff_toList_perm.mp (bD' s kz.reverse).1).mem_iff.mp h1
  simp at h2
  simp
  omega
 obtain ⟨u,g1,g2⟩:=r2.get (getElem?_eq_getElem hj)
 rw [getD_eq_getElem?_getD,getD_eq_getElem?_getD,getElem?_eq_getElem hj,g1]
 exact g2
section
variable {X:Cx}{aa:List (Addr×Obj)}{U:L2.St}{H:Hp}{s:Shared}{params:Arguments}{body:Expr}{scope:Scope}{t:TE}{vc:V}{g y:Str}{c0 f:Addr}{pm cv bp:Value}{kb jc:Nat}
theorem nofr (I:Inv X aa U H s){b:Addr} (h:s.heap.objs.size<=b):b∉frs X.stack:=λz=>by
 rcases mem_cons.mp (I.stkSub b z) with e | e
 ·exact absurd I.lt (by rw [← e];exact not_lt.mpr h)
 ·exact I.nofs h e
theorem fD' (hr:Room (kb+3) X.A) (L:LamFix X params body scope g y c0 t kb jc) (hv:U[jc]?=some (some vc)) (I:Inv X aa U H s) (hf:s.heap.get? f=some (lamObj params body scope [(y,c0)] pm cv bp)) (nF:H f=none) (ff:f∉frs X.stack) (aP:Code1 H cv)
  {l:Addr}{xs:List V} (hq:SqL X.K H l xs) (bx:xs.length < 64){Q:VK} (kk:keyK (stpL t vc) xs H [] λkz H'=>∀ d,H' d=none->Q (.ref d) (upd H' d (.lst (srtK .non kz xs)))) :
  wpAny (model X.prog X.w) X.A (call (.builtin "sorted") [.ref l] [(ofString "key", .ref f),(ofString "reverse", .bool true)]) (EP X aa U Q) X.xe s:=by
 have line:64<=sizeLine:=by rw [sizeLine_eq];decide
 obtain ⟨af,rv,tl,hz⟩:=I.list hq
 have lv:=rv.length
 refine call_function_entry_kw kind_sorted plain_sorted entry_sorted (ksk_s2 _ _ _) ?_
 refine wpAny_bind (m:=checkCount "sorted" 1 1 _) (wpAny_pure (wpAny_bind (collect_list tl.isList ?_ (by omega))))
 obtain ⟨g0,kJ⟩:∃ g0,g0=(s.heap.push (seqObj "list" #[] 0)).update s.heap.objs.size (mapSeq (·++af.toArray)):=⟨_,rfl⟩
 have k0:∀ b o,s.heap.get? b=some o->g0.get? b=some o:=λb o e=>by rw [kJ];exact (get?_update_other _ _ (ne_of_gt (lt_size e))).trans (get?_push_of_some _ e)
 have z0:g0.objs.size=s.heap.objs.size+1:=by rw [kJ,size_update,size_push]
 rw [← kJ]
 refine wpAny_bind (wpAny_newList ?_ (by omega))
 obtain ⟨a,ea⟩:∃ a,a=g0.objs.size:=⟨_,rfl⟩
 obtain ⟨g1,bQ⟩:∃ g1,g1=g0.push (seqObj "list" af.toArray 0):=⟨_,rfl⟩
 have o1:g1.get? a=some (seqObj "list" af.toArray 0):=by rw [bQ,ea];exact get?_push_size _ rfl
 have z1:g1.objs.size=g0.objs.size+1:=by rw [bQ,size_push]
 show wpAny _ _ _ _ _ { s with heap:=g0.push (seqObj "list" af.toArray 0) }
 rw [← bQ,← ea]
 refine wpAny_bind (wpAny_holding (wpAny_call_entry_kw slot_list_sort ⟨_,o1,rfl⟩ entry_list_sort ?_ (ksk_l2 _ _ _)))
 rw [ksk_t2]
 unfold ksk_tree
 refine wpAny_bind (listItems_at o1 rfl (wpAny_bind (listUpdate_at o1 rfl ?_ (by rw [size_toArray];omega) (zero_le _))))
 obtain ⟨g2,bR⟩:∃ g2,g2=g1.update a (mapSeq λ_=>(#[]:Array Value)):=⟨_,rfl⟩
 obtain ⟨e1,o2⟩:∃ e1,g2.get? a=some (seqObj "list" #[] e1):=⟨_,by rw [bR];exact get?_update_seq o1 _⟩
 have z2:g2.objs.size=g1.objs.size:=by rw [bR,size_update]
 rw [← bR]
 refine wpAny_bind (seqEpoch_at o2 rfl (wpAny_bind (wpAny_newTuple (wpAny_bind (wpAny_newList (wpAny_holding ?_) (zero_le _))) (by show af.length<=_;omega))))
 obtain ⟨g3,iR⟩:∃ g3,g3=g2.push (seqObj "tuple" af.toArray 0):=⟨_,rfl⟩
 obtain ⟨kS,ek⟩:∃ kS,kS=g3.objs.size:=⟨_,rfl⟩
 obtain ⟨g4,d8⟩:∃ g4,g4=g3.push (seqObj "list" #[] 0):=⟨_,rfl⟩
 have z3:g3.objs.size=g2.objs.size+1:=by rw [iR,size_push]
 show wpAny _ _ (ksk_rest a (.ref f) true af.toArray e1 (.ref (g2.push (seqObj "tuple" af.toArray 0)).objs.size)) _ _ { s with heap:=(g2.push (seqObj "tuple" af.toArray 0)).push (seqObj "list" #[] 0) }
 rw [← iR,← ek,← d8]
 have keep:∀ b o,s.heap.get? b=some o->g4.get? b=some o:=λb o e=>by
  have nb:b≠a:=by rw [ea,z0];exact ne_of_lt (lt_succ_of_lt (lt_size e))
  rw [d8,iR,bR]
  refine get?_push_of_some _ (get?_push_of_some _ ((get?_update_other _ _ (Ne.symm nb)).trans ?_))
  rw [bQ]
  exact get?_push_of_some _ (k0 b o e)
 have I4:Inv X aa U H { s with heap:=g4 }:=I.kept (t':=s.toks) keep
 have hJ:s.heap.objs.size<=a:=by rw [ea,z0];exact le_succ _
 have iS:s.heap.objs.size<=kS:=by rw [ek,z3,z2,z1,z0];omega
 have rZ:kS≠a:=by rw [ek,ea,z3,z2,z1];omega
 have oB:f < s.heap.objs.size:=lt_size hf
 refine mP' hr L hv rv bx rZ ⟨ne_of_lt (lt_of_lt_of_le oB iS),ne_of_lt (lt_of_lt_of_le oB hJ)⟩ (λH' n=>I.fpOk hJ n) (λH' n=>I.fpOk iS n) (λb hb=>?_) I4 (keep _ _ hf) nF aP ?_ (I.hok.fresh hJ) ?_ (I.hok.fresh iS) kk λs' H' kz c I' nL aG kl q=>?_
 ·rcases hb with h | h | h
  ·rw [h];exact nofr I hJ
  ·rw [h];exact nofr I iS
  ·rw [h];exact ff
 ·show g4.get? a=_
  rw [d8,iR];exact get?_push_of_some _ (get?_push_of_some _ o2)
 ·show g4.get? kS=_
  rw [d8,ek];exact get?_push_size _ rfl
 ·refine ⟨_,rfl,wpAny_pure ⟨_,rfl,.ref a,_,gz' (o:=.lst (srtK .non kz xs)) I' (I.fpOk hJ nL) ⟨by rw [oI' s,kl];omega,srtK Value.none kz af,c,mQ' s rv kl,aG⟩,rfl,q a nL⟩⟩
variable {B:BB}{e:Expr}{pos p dE kK gY cp:Pos}{jx:Option Str}
end
section
variable {X:Cx}{params:Arguments}{body:Expr}{scope:Scope}{t:TE}{g y:Str}{c0:Addr}{kb jc:Nat}{B:BB}{e:Expr}{pos p dE kK gY cp:Pos}{jx:Nat}
noncomputable def tSortL (X:Cx) (t:TE) (jc:Nat) (te:TE):TE:=λU H Q=>te U H λx H1=>∃ l xs vc,x=.ref l/\U[jc]?=some (some vc)/\SqL X.K H1 l xs/\xs.length < 64 ∧
 keyK (stpL t vc) xs H1 [] (λkz H'=>∀ d,H' d=none->Q (.ref d) (upd H' d (.lst (srtK .non kz xs)))) ∧
 ∀ c' o,H1 c'=none->SqL X.K (upd H1 c' o) l xs/\keyK (stpL t vc) xs (upd H1 c' o) [] (λkz H'=>∀ d,H' d=none->Q (.ref d) (upd H' d (.lst (srtK .non kz xs))))
theorem jW' {te:TE}{c P:Addr} (hr:Room (kb+3) X.A) (hg:Gl X "sorted") (hm:X.mg "sorted"=none) (L:LamFix X params body scope g y c0 t kb jc) (ht:tabIn X.K "few_of"=some (c,P)) (cy:X.env.code=.ref c) (hq:X.env.qual = "few_of.<locals>.") (ee:defaultsOf params X.env=([],[]))
  (cw:closureFor scope X.env=pure [(y,c0)]) (he:PE X e te) (hs:backTo pos (starEach [e] X.env)=(false,eval e X.env)::backTo pos (starEach [] X.env):=by rfl) (hp:(backTo pos (starEach [e] X.env)).any (·.1)=false:=by rfl) :
  PE X (.Call (.Name "sorted" p) [e] [⟨some "key", .Lambda params body scope dE,kK⟩,⟨some "reverse", .Constant (.bool true) jx cp,gY⟩] pos) (tSortL X t jc te):=by
 intro aa s U H Q I h
 refine wpAny_Call_Name_kw (aW' I hg hm boot_sorted (callWith_kw ?_ hs hp) (by decide) (by decide))
 rw [hs]
 refine Calls.spliced_cons (thn (he aa s U H _ I h) λv s1 ⟨x,H1,I1,r1,l,xs,vc,ex,hv,iu,bx,kk,oC⟩=>Calls.spliced_nil (kws_cons ?_))
 subst ex
 cases r1
 refine mN' I1 ht cy hq ee cw λf H' s' pm cv bp I2 hH aP oD nF hf=>kws_cons (Constant_bool (kws_nil ?_))
 rcases hH with rfl | ⟨c',oc,n,rfl⟩
 ·exact fD' hr L hv I2 hf nF (nofr I1 oD) aP iu bx kk
 ·exact fD' hr L hv I2 hf nF (nofr I1 oD) aP (oC c' _ n).1 bx (oC c' _ n).2
noncomputable def B0:BB:=λ_=>none
noncomputable def keysL (el:M D) (dc:D):List D->Option (List Int)
 | []=>some []
 | d::ds=>match el [some (.val d),some (.val dc)] with
  | some (.int k,_)=>match keysL el dc ds with
   | some kz=>some (k::kz)
   | none=>none
  | _=>none
noncomputable def sortLF (el:M D) (d dc:D):Option (List D):=match d with
 | .lst ds=>match keysL el dc ds with
  | some kz=>if ds.length < 64 then some (srtK .non kz ds) else none
  | none=>none
 | _=>none
noncomputable def valAt (j:Nat):M D:=λZ=>match Z[j]? with
 | some (some (.val d))=>some (d,Z)
 | _=>none
noncomputable def sortLam (j:Nat) (el ga:M D):M (List D):=bnd ga λd=>bnd (valAt j) λdc=>lft (sortLF el d dc)
theorem oJ' {K:PySem.W.Frag}{I H:Hp}{d dc:D}{v vc:V} (iH:Same I H) (hd:Is K I d v) (hc:Is K I dc vc):Rep K B0 H I H [some v,some vc] [some (.val d),some (.val dc)] where
 iH:=iH
 gH:=Same.refl _
 len:=rfl
 slot:=λi r e=>by
  match i,e with
  | 0,e=>cases e;exact ⟨v,rfl,hd⟩
  | 1,e=>cases e;exact ⟨vc,rfl,hc⟩
 dist:=λi j r r' w e e' m=>by
  match i,e with
  | 0,e=>cases e;cases m
  | 1,e=>cases e;cases m
 bor:=λi ds e=>by
  match i,e with
  | 0,e=>cases e
  | 1,e=>cases e
theorem gC' {el:M D}{dc:D}:∀ {ds:List D}{kz:List Int},keysL el dc ds=some kz->kz.length=ds.length
 | [],kz,h=>by cases h;rfl
 | d::ds,kz,h=>by
  unfold keysL at h
  split at h
  ·split at h
   ·rename_i e
    cases h
    simp [gC' e]
   ·cases h
  ·cases h
theorem hU' {K:PySem.W.Frag}{G:Hp}{Z:Gm}{U:L2.St}{el:M D}{dc:D}{vc:V}{Qf:List Int->Hp->Prop}:∀ (ds:List D) (xs:List V) (H I:Hp) (am kz:List Int),IsA K I ds xs->Is K I dc vc->Rep K B G I H U Z->keysL el dc ds=some kz →
  (∀ H' I',Rep K B G I' H' U Z->Grow G I I'->Qf (am++kz) H')->keyK (stpL (tD K B0 el) vc) xs H am Qf
 | [],xs,H,I,am,kz,ha,hc,r,h,k=>by
  rw [ha.nil_inv]
  cases h
  have:=k H I r (Grow.refl _ _)
  rw [append_nil] at this
  exact this
 | d::ds,xs,H,I,am,kz,ha,hc,r,h,k=>by
  obtain ⟨x,xr,rfl,h1,h2⟩:=ha.cons_inv
  unfold keysL at h
  split at h
  ·rename_i n ao e1
   split at h
   ·rename_i kr e2
    cases h
    refine ⟨H,I,_,_,_,oJ' r.iH h1 hc,e1,λv H' I' r' g' hv=>⟨n,al' hv,?_⟩⟩
    have rx:Rep K B G I' H' U Z:=r.ext g'.up r'.gH r'.iH g'.new
    refine hU' ds xr H' I' (am++[n]) kr (h2.mono g'.up) (hc.mono g'.up) rx e2 λH2 I2 r2 g2=>?_
    have:=k H2 I2 r2 ((show Grow G I I' from ⟨g'.up,λb o e=>(g'.new b o e).imp id λhn=>r.gFree hn⟩).trans g2)
    rw [append_assoc]
    exact this
   ·cases h
  ·cases h
theorem oK' {K:PySem.W.Frag}{I:Hp} (s:Shared){ds:List D}{xs:List V}{kz:List Int} (h:IsA K I ds xs) (hl:kz.length=ds.length):IsA K I (srtK .non kz ds) (srtK .non kz xs):=by
 rw [oG',oH']
 refine IsA.reverse (IsA.perm h.reverse ?_)
 have:=(bD' s kz.reverse).1
 rw [length_reverse,hl] at this
 rw [length_reverse]
 exact this
theorem jX' {el ga:M D}{c P:Addr} (hr:Room (kb+3) X.A) (hg:Gl X "sorted") (hm:X.mg "sorted"=none) (L:LamFix X params body scope g y c0 (tD X.K B0 el) kb jc) (ht:tabIn X.K "few_of"=some (c,P)) (cy:X.env.code=.ref c) (hq:X.env.qual = "few_of.<locals>.") (ee:defaultsOf params X.env=([],[]))
  (cw:closureFor scope X.env=pure [(y,c0)]) (he:ED X B e ga) (hs:backTo pos (starEach [e] X.env)=(false,eval e X.env)::backTo pos (starEach [] X.env):=by rfl) (hp:(backTo pos (starEach [e] X.env)).any (·.1)=false:=by rfl) :
  EO X B (.Call (.Name "sorted" p) [e] [⟨some "key", .Lambda params body scope dE,kK⟩,⟨some "reverse", .Constant (.bool true) jx cp,gY⟩] pos) (sortLam jc el ga):=PE.imp (jW' hr hg hm L ht cy hq ee cw he hs hp) λU H Q q=>by
 obtain ⟨G,I,Z,d,aj,r,e1,kk⟩:=q
 obtain ⟨d1,ae,e2,e3⟩:=ac' e1
 obtain ⟨dc,ao,e4,e5⟩:=ac' e3
 obtain ⟨e6,rfl⟩:=am' e5
 refine ⟨G,I,Z,d1,ae,r,e2,λv H1 I1 r1 g1 hd=>?_⟩
 unfold valAt at e4
 split at e4
 ·rename_i d2 sl
  cases e4
  obtain ⟨vc,hv,r8⟩:=r1.slot jc _ sl
  unfold sortLF at e6
  split at e6
  ·rename_i ds
   split at e6
   ·rename_i kz ek
    obtain ⟨bx,rfl⟩:=aq' e6
    obtain ⟨l,xs,rfl,h3,h4⟩:=ar' hd
    have n1:=h4.length
    have kl:=gC' ek
    have go:∀ H2,Rep X.K B G I1 H2 U aj->keyK (stpL (tD X.K B0 el) vc) xs H2 [] (λkz H'=>∀ d,H' d=none->Q (.ref d) (upd H' d (.lst (srtK .non kz xs)))):=λH2 r2 =>
     hU' ds xs H2 I1 [] kz h4 r8 r2 ek λH' I' r' g' l' hl=>(kk.after (g1.trans g')).new r' hl (oK' {} (h4.mono g'.up) kl)
    refine ⟨l,xs,vc,rfl,hv,(Same.rdK r1.iH h3).sq,by omega,go H1 r1,λc' o n=>⟨?_,go _ (r1.fresh n o)⟩⟩
    exact (Same.rdK (r1.fresh n o).iH h3).sq
   ·cases e6
  ·cases e6
 ·cases e4
end
end DL
namespace DL
open PySem PySem.Spec PyProof.Rows L2
section
variable {P:Program}{w:World}{K:PySem.W.Frag}{mg:Str->Option Value}{base:Heap}
theorem oL' {f c P':Addr}{fd:FuncData}{oc:Value}{od:Option Addr}{cP:Array (Option Value)} (hn:nsIn K mainGlobals "few_of"=some (some (.ref f))) (ht:tabIn K "few_of"=some (c,P')) (lk:K.lookup f=some ⟨oc,od,.func fd,cP⟩):fd.code=.ref c:=by
 unfold tabIn at ht
 rw [hn] at ht
 dsimp only at ht
 rw [lk] at ht
 dsimp only at ht
 split at ht
 ·rename_i e
  split at ht
  ·split at ht
   ·cases ht;exact e
   ·cases ht
  ·cases ht
 ·cases ht
theorem oM' {x qual:Str}{st:Stmt}{f c P':Addr}{fd:FuncData}{N ps:List Str}{k:Nat}{sp:Sp} (F:Fun K x qual st f fd) (S:FnScope N ps (defScope st)) (hn:nsIn K mainGlobals "few_of"=some (some (.ref f))) (ht:tabIn K "few_of"=some (c,P')) (len:∀ vs H Q E,sp vs H Q E->vs.length=ps.length)
  (cQ:∀ (ax:Value),ax=.ref c->∀ (A:Around) (outer:List Env) (s:Shared) (H:Hp) (vs:List V) (Q:VK) (E:XK),Room k (A.deeper (envOfC qual (defScope st) s.heap.objs.size f ax))->sp vs H Q E →
   ∃ t,PSs (cxOf CX0 P w K mg base N qual (defScope st) f ax A outer s H E).nox (defBody st) t/\t { nx:=λ_ H'=>Q .non H',rt:=Q } (start N vs) H):FnOk P w K mg base CX0 (k+1) f fd ps sp:=by
 obtain ⟨oc,od,kV,bC,pm,an,ax,ct,cP,rfl,lk,aP⟩:=F.ex
 refine np' lk aP S len λA outer s H vs Q E hr dm=>?_
 obtain ⟨t,h,q⟩:=cQ ax (oL' hn ht lk) A outer s H vs Q E hr dm
 exact ⟨t,h.nox,q⟩
theorem p6' {x qual:Str}{c P':Addr}{st:Stmt}{f:Addr}{fd:FuncData}{N ps:List Str}{k:Nat} (F:Fun K x qual st f fd) (S:FnScope N ps (defScope st)) (hn:nsIn K mainGlobals "few_of"=some (some (.ref f))) (ht:tabIn K "few_of"=some (c,P')) (g:M Fl)
  (hb:∀ (ax:Value),ax=.ref c->∀ (A:Around) (outer:List Env) (s:Shared) (H:Hp) (E:XK) (B:BB),Room k (A.deeper (envOfC qual (defScope st) s.heap.objs.size f ax)) →
   SDs (cxOf CX0 P w K mg base N qual (defScope st) f ax A outer s H E).nox B (defBody st) g):FnOk P w K mg base CX0 (k+1) f fd ps (spD K (fnD N.length ps.length g)):=by
 refine oM' F S hn ht (λvs H Q E h=>?_) (λax aP A outer s H vs Q E hr h=>?_)
 ·obtain ⟨_,_,rs,_,_,h1,_,h2,_⟩:=h
  unfold fnD at h2
  by_cases hc:rs.length=ps.length
  ·rw [← hc];simpa using h1.len
  ·rw [if_neg hc] at h2;cases h2
 ·obtain ⟨G,I,rs,r,aT,h2,h3,h4,h5⟩:=h
  have hl:vs.length=rs.length:=by simpa using h2.len
  refine ⟨_,hb ax aP A outer s H E (λi=>(L2.start N vs)[i]?) hr,?_⟩
  unfold fnD at h4
  have hc:rs.length=ps.length:=by
   by_cases hc:rs.length=ps.length
   ·exact hc
   ·rw [if_neg hc] at h4;cases h4
  rw [if_pos hc] at h4
  unfold fnD1 at h4
  cases e1:g (rs.map some++replicate (N.length - rs.length) none) with
  | none=>rw [e1] at h4;cases h4
  | some q =>
   obtain ⟨fl,aj⟩:=q
   rw [e1] at h4
   dsimp only at h4
   cases e2:flR fl with
   | none=>rw [e2] at h4;cases h4
   | some rr =>
    rw [e2] at h4
    dsimp only at h4
    cases e3:fin rs aj with
    | none=>rw [e3] at h4;cases h4
    | some l =>
     rw [e3] at h4
     obtain ⟨rfl,rfl⟩:rr=r/\l=aT:=by cases h4;exact ⟨rfl,rfl⟩
     have dL:∀ {i:Nat}{v:V},vs[i]?=some v->(L2.start N vs)[i]?=some (some v):=λ{i v} e=>by
      unfold L2.start
      rw [getElem?_append_left (by rw [length_map];exact (List.getElem?_eq_some_iff.mp e).1),getElem?_map,e];rfl
     have eE:∀ {i:Nat}{v:V},(L2.start N vs)[i]?=some (some v)->vs[i]?=some v:=λ{i v} e=>bE' e
     have gC:Rep K (λi=>(L2.start N vs)[i]?) G I H (L2.start N vs) (rs.map some++replicate (N.length - rs.length) none):={
      iH:=h2.iH,gH:=h2.gH
      len:=by unfold L2.start;rw [length_append,length_append,length_map,length_map,length_replicate,length_replicate,hl]
      slot:=λi q e=>by
       have e':=bE' e
       obtain ⟨v,e4,e5⟩:=h2.slot i q (by rw [getElem?_map,e'];rfl)
       obtain ⟨v',e6,e7⟩:=getMap e4
       cases e7
       exact ⟨v,dL e6,e5⟩
      dist:=λi j q q' v e e' m m' s1 s2=>h2.dist i j q q' v (by rw [getElem?_map,bE' e];rfl) (by rw [getElem?_map,bE' e'];rfl) m m' (by rw [getElem?_map,eE s1];rfl) (by rw [getElem?_map,eE s2];rfl)
      bor:=λi ds e=>rfl }
     obtain ⟨f1,f2⟩:=eh' e3
     -- behind the body
     have cV:∀ {aq:L2.St}{H' I':Hp},Rep K (λi=>(L2.start N vs)[i]?) G I' H' aq aj->Grow G I I'->Rep K (vB vs) G I' H' (vs.map some) (l.map some):=λ{aq H' I'} r' g'=>{
      iH:=r'.iH,gH:=r'.gH
      len:=by rw [length_map,length_map,f1,hl]
      slot:=λi q e=>by
       obtain ⟨q',e4,e5⟩:=getMap e
       cases e5
       rcases f2 i q e4 with ⟨d,rfl,e6⟩ | ⟨ds,rfl,e6⟩
       ·obtain ⟨v,e7,e8⟩:=h2.slot i (.val d) (by rw [getElem?_map,e6];rfl)
        exact ⟨v,e7,Is.mono g'.up e8⟩
       ·obtain ⟨v,e7,e8⟩:=r'.slot i _ e6
        have e9:=r'.bor i ds e6
        rw [e7] at e9
        exact ⟨v,by rw [getElem?_map,eE e9.symm];rfl,e8⟩
      dist:=λi j q q' v e e' m m' s1 s2=>by
       obtain ⟨_,e4,e5⟩:=getMap e
       cases e5
       obtain ⟨_,e6,e7⟩:=getMap e'
       cases e7
       rcases f2 i q e4 with ⟨d,rfl,_⟩ | ⟨ds,rfl,e8⟩
       ·cases m
       rcases f2 j q' e6 with ⟨d,rfl,_⟩ | ⟨ix,rfl,e9⟩
       ·cases m'
       obtain ⟨v1,a1,_⟩:=getMap s1
       obtain ⟨v2,a2,a3⟩:=getMap s2
       have b1:=r'.bor i ds e8
       have b2:=r'.bor j ix e9
       rename_i b3
       cases b3
       cases a3
       rw [dL a1] at b1
       rw [dL a2] at b2
       exact r'.dist i j _ _ v e8 e9 rfl rfl b1 b2
      bor:=λi ds e=>rfl }
     have ap:∀ {aq:L2.St}{H' I':Hp}{p:Addr},Rep K (λi=>(L2.start N vs)[i]?) G I' H' aq aj->Apart aq aj p->Apart (vs.map some) (l.map some) p:=λ{aq H' I' p} r' a i q e m z=>by
      obtain ⟨_,e4,e5⟩:=getMap e
      cases e5
      rcases f2 i q e4 with ⟨d,rfl,_⟩ | ⟨ds,rfl,e8⟩
      ·cases m
      obtain ⟨v1,a1,a2⟩:=getMap z
      cases a2
      exact a i _ e8 rfl ((r'.bor i ds e8).trans (dL a1))
     refine ⟨G,I,_,fl,aj,gC,e1,λaq H' I' r' g'=>?_⟩
     cases fl with
     | nx=>cases e2;exact h5 _ H' I' (cV r' g') g' (show Is K I' D.non V.non from Is.non)
     | bk=>cases e2
     | ct=>cases e2
     | rt r0 =>
      cases e2
      intro v hv
      refine h5 v H' I' (cV r' g') g' ?_
      cases rr with
      | val d=>exact hv
      | bor d=>exact hv
      | fro d=>exact hv
      | dic d =>
       obtain ⟨p,xs,b1,b2,b3,b4,b5,b6⟩:=hv
       exact ⟨p,xs,b1,b2,b3,b4,ap r' b5,b6⟩
      | own d =>
       obtain ⟨p,xs,b1,b2,b3,b4,b5,b6⟩:=hv
       exact ⟨p,xs,b1,b2,b3,b4,ap r' b5,b6⟩
end
section
variable {X:Cx}{params:Arguments}{body:Expr}{scope:Scope}{g y:Str}{c0:Addr}{kb jc:Nat}{el:M D}
theorem lu' (jn:X.N[jc]?=some y) (cl:X.env.cells.lookup y=some c0) (hb:∀ (A:Around) (s:Shared) (H:Hp) (f:Addr) (cv:Value),Room kb (A.deeper (envL scope s.heap.objs.size f cv [(y,c0)]))->ED (cxL X A scope [g,y] s H f cv [(y,c0)]) B0 body el)
  (hk:X.env.scope.names.lookup y=some .cell:=by rfl) (ne:g≠y:=by decide) (n6:∀ pm cv bp u,bindArgs (kla_fn "<lambda>" "few_of.<locals>.<lambda>" params body scope [(y,c0)] pm cv bp) ⟨[u],[]⟩=pure [(g,u)]:=by intro _ _ _ _;rfl)
  (k1:scope.kind=.function:=by rfl) (k2:scope.isCoroutine=false:=by rfl) (k3:scope.isGenerator=false:=by rfl) (lg:scope.names.lookup g=some .local:=by rfl) (ly:scope.names.lookup y=some .free:=by rfl)
  (no:∀ x∈scope.names,x.2≠.cell:=by decide +kernel) (fre:∀ x∈scope.names,x.2=.free->x.1=y:=by decide +kernel):LamFix X params body scope g y c0 (tD X.K B0 el) kb jc :=
 ⟨jn,.inr (.inl hk),(λz=>by
  have z:X.env.scope.names.lookup y=some .local:=z
  rw [hk] at z
  cases z),cl,ne,n6,k1,k2,k3,lg,ly,no,λx h=>fre _ (PySem.mem_of_lookup h) rfl,hb⟩
end
end DL
namespace DL
open PySem PySem.W PySem.Spec PyProof.Rows L2
section
variable {X:Cx}{B:BB}{a b c c':Expr}{pos:Pos}{ga gb gc gd:M D}
theorem lv' {op kL hU:CmpOp}{r r' eO:R2}{ta tb tc td:TE} (ho:OpR X (compareOp op) r) (bG:OpR X (compareOp kL) r') (oE:OpR X (compareOp hU) eO) (ha:PE X a ta) (hb:PE X b tb) (hc:PE X c tc) (hd:PE X c' td)
  (hm:lastMarks [op,kL,hU] [b,c,c']=false:=by with_unfolding_all rfl):PT X (.Compare a [op,kL,hU] [b,c,c'] pos) (tTest (tChain3 r r' eO ta tb tc td)):=by
 intro aa s U H Q I h
 refine isTrue_chain (thn (ha aa s U H _ I h) λv s1 ⟨x,H1,I1,r1,q1⟩=>test_link (thn (hb aa s1 U H1 _ I1 q1) λu s2 ⟨y,H2,I2,r2,q2⟩ =>
  thn (ho aa s2 U H2 x y v u _ I2 r1 r2 q2) λd s3 ⟨z,H3,I3,r3,k,e,q3⟩=>?_)) hm
 subst e
 cases r3
 refine wpAny_truthy_bool ?_
 cases k with
 | false =>
  obtain ⟨k',e',q'⟩:=q3
  cases e'
  exact ite_ff ⟨H3,I3,q'⟩
 | true =>
  refine ite_tt (test_link (thn (hc aa s3 U H3 _ I3 q3) λu' s4 ⟨y',H4,I4,r4,q4⟩=>thn (bG aa s4 U H4 y y' u u' _ I4 r2 r4 q4) λd' s5 ⟨z',H5,I5,r5,k',e',q5⟩=>?_))
  subst e'
  cases r5
  refine wpAny_truthy_bool ?_
  cases k' with
  | false =>
   obtain ⟨k2,e2,q'⟩:=q5
   cases e2
   exact ite_ff ⟨H5,I5,q'⟩
  | true =>
   refine ite_tt (test_last (thn (hd aa s5 U H5 _ I5 q5) λw' s6 ⟨z3,H6,I6,r6,q6⟩=>thn (oE aa s6 U H6 y' z3 u' w' _ I6 r4 r6 q6) λd' s7 ⟨z2,H7,I7,r7,k2,e2,q7⟩=>?_))
   subst e2
   cases r7
   exact wpAny_truthy_bool ⟨H7,I7,q7⟩
theorem mR' (ha:ED X B a ga) (hb:ED X B b gb) (hc:ED X B c gc) (hd:ED X B c' gd) (hm:lastMarks [.Lt,.LtE,.Lt] [b,c,c']=false:=by with_unfolding_all rfl):TD X B (.Compare a [.Lt,.LtE,.Lt] [b,c,c'] pos) (tst (chn3 ltI leI ltI ga gb gc gd)):=PT.imp (lv' js' qt' js' ha hb hc hd hm) (gY' (p0' dr' dr' dr'))
end
theorem IsK.cons_mk {K:PySem.W.Frag}{I:Hp}{a:Int}{d:D}{v:V}{ah:List (Int×D)}{xs:List (Key×V)} (hd:Is K I d v) (h:IsK K I ah xs):IsK K I ((a,d)::ah) ((Sum.inl a,v)::xs):=⟨by simp [h.1],IsA.cons hd h.2⟩
theorem IsK.remap {K:PySem.W.Frag}{I:Hp}{k:Int}{d:D}{v:V} (hd:Is K I d v):∀ {ah:List (Int×D)}{xs:List (Key×V)},IsK K I ah xs->IsK K I (ah.map λp=>if p.1=k then (p.1,d) else p) (xs.map λp=>if p.1=Sum.inl k then (p.1,v) else p)
 | [],xs,h=>by rw [h.nil_inv];exact IsK.nil
 | p::ah,xs,h=>by
  obtain ⟨w,r,rfl,h1,h2⟩:=h.cons_inv
  rw [map_cons,map_cons]
  have ih:=IsK.remap (k:=k) hd h2
  by_cases e:p.1=k
  ·rw [if_pos e,if_pos (show (Sum.inl p.1:Key)=Sum.inl k by rw [e])]
   exact IsK.cons_mk hd ih
  ·rw [if_neg e,if_neg (show ¬ (Sum.inl p.1:Key)=Sum.inl k from λz=>e (Sum.inl.inj z))]
   exact IsK.cons_mk h1 ih
noncomputable def putGF (n d:D) (ah:List (Int×D)):Option (List (Int×D)):=match n with
 | .int k=>if ah.length < lim then some (if (valD ah k).isSome=true then ah.map (λp=>if p.1=k then (p.1,d) else p) else ah++[(k,d)]) else none
 | _=>none
noncomputable def putG (i:Nat) (gk gv:M D):M Fl:=bnd gv λd=>bnd (lookK i) λ_=>bnd gk λn=>wrK i (putGF n d)
theorem oN' {X:Cx}{B:BB}{e k:Expr}{pos:Pos}{gk gv:M D}{kr i:Nat}{x:Str}{p1 az:Pos} (hr:Room kr X.A) (hv:PE X (.Name x p1) (tVar i)) (hk:ED X B k gk) (he:ED X B e gv) (hs:swapsWith e (some (.Subscript (.Name x p1) k az)) pos.line X.env=pure false:=by rfl) :
  SD X B (.Assign [.Subscript (.Name x p1) k az] e pos) (putG i gk gv):=PS.imp (nV' (ns' hr) hv hk he hs) λE U H q=>by
 obtain ⟨G,I,Z,fl,aj,r,e1,kk⟩:=q
 obtain ⟨d,ae,e2,e3⟩:=ac' e1
 obtain ⟨vE,ao,e4,e5⟩:=ac' e3
 obtain ⟨n,aQ,e6,e7⟩:=ac' e5
 obtain ⟨rfl,ah,es,w1,w2,rfl⟩:=om' e7
 refine ⟨G,I,Z,d,ae,r,e2,λv H1 I1 r1 g1 hd=>?_⟩
 obtain ⟨rfl,_,a,xs,f1,f2,_⟩:=gx' e4 r1
 refine ⟨_,f1,G,I1,ao,n,aQ,r1,e6,λy H2 I2 r2 g2 hn=>?_⟩
 obtain ⟨u,h1,a',aW,rfl,f5,f6,f7,f8⟩:=r2.slot i _ w1
 have hp:a'=a:=by rw [f1] at h1;cases h1;rfl
 subst hp
 unfold putGF at w2
 split at w2
 ·rename_i m
  obtain ⟨c2,rfl⟩:=aq' w2
  have:=al' hn
  subst this
  have ln:aW.length < sizeLine:=by rw [f8.len];exact lt_of_lt_of_le c2 (cg' (le_refl _))
  refine ⟨a',_,rfl,DPut.k (k:=Sum.inl m) f5 ln,?_⟩
  have bj:=hd.mono g2.up
  have key:IsK X.K I2 (if (valD ah m).isSome=true then ah.map (λp=>if p.1=m then (p.1,d) else p) else ah++[(m,d)]) (putK aW (Sum.inl m) v):=by
   rcases f8.val (k:=m) with ⟨d',v',w1,w2,_⟩ | ⟨w1,w2⟩
   ·rw [w1,if_pos (show (some d').isSome=true from rfl)]
    unfold putK
    rw [dp',w2,if_pos (show (some v').isSome=true from rfl)]
    exact f8.remap bj
   ·rw [w1,l9' v w2,if_neg (by decide)]
    exact f8.snoc bj
  exact kk U _ I2 (r2.writeK w1 h1 key) (g1.trans g2)
 ·cases w2
end DL
namespace DL
open PySem L2
variable {α β:Type}
def wp (m:M α) (Z:Gm) (Q:α->Gm->Prop):Prop:=∃ a aj,m Z=some (a,aj)/\Q a aj
def wpF (g:List R->Option (R×List R)) (rs:List R) (Q:R->List R->Prop):Prop:=∃ r aT,g rs=some (r,aT)/\Q r aT
def wpB (g:List R->Option (R×List R)) (c ds:List D) (Q:R->List D->Prop):Prop:=∃ r c',bcF g c ds=some (r,c')/\Q r c'
section
variable {Z:Gm}{Q:α->Gm->Prop}{QD:D->Gm->Prop}{QL:List D->Gm->Prop}{QB:Bool->Gm->Prop}{QS:Fl->Gm->Prop}{QU:Unit->Gm->Prop}
theorem wp.mono {m:M α}{Q':α->Gm->Prop} (h:wp m Z Q) (f:∀ a Z,Q a Z->Q' a Z):wp m Z Q':=by
 obtain ⟨a,aj,e,q⟩:=h
 exact ⟨a,aj,e,f _ _ q⟩
@[simp ↓] theorem dj' {a:α}:wp (ret a) Z Q↔Q a Z:=by
 constructor
 ·rintro ⟨b,aj,e,q⟩;cases e;exact q
 ·intro q;exact ⟨_,_,rfl,q⟩
@[simp ↓] theorem aB' {β:Type}{m:M β}{f:β->M α}:wp (bnd m f) Z Q↔wp m Z λb ae=>wp (f b) ae Q:=by
 constructor
 ·rintro ⟨a,aj,e,q⟩
  obtain ⟨b,ae,e1,e2⟩:=ac' e
  exact ⟨b,ae,e1,a,aj,e2,q⟩
 ·rintro ⟨b,ae,e1,a,aj,e2,q⟩
  exact ⟨a,aj,by unfold bnd;rw [e1];exact e2,q⟩
@[simp ↓] theorem p7' {a:α}:wp (lft (some a)) Z Q↔Q a Z:=by
 constructor
 ·rintro ⟨b,aj,e,q⟩;cases e;exact q
 ·intro q;exact ⟨_,_,rfl,q⟩
theorem ai' {o:Option α}{a:α} (h:o=some a):wp (lft o) Z Q↔Q a Z:=by rw [h,p7']
@[simp ↓] theorem qL' {i:Nat}:wp (nm i) Z QD↔match Z[i]? with
  | some (some (.val d))=>QD d Z
  | some (some (.own ds))=>QD (.lst ds) (Z.set i (some (.val (.lst ds))))
  | some (some (.fro ds))=>QD (.lst ds) Z
  | _=>False:=by
 unfold wp nm
 rcases e:Z[i]? with _ | _ | r
 ·simp
 ·simp
 ·cases r<;>simp<;>exact ⟨λ⟨_,_,⟨h1,h2⟩,q⟩=>by subst h1;subst h2;exact q,λq=>⟨_,_,⟨rfl,rfl⟩,q⟩⟩
@[simp ↓] theorem rB' {F:D->D->Option α}{a b:M D}:wp (op2 F a b) Z Q↔wp a Z λx ae=>wp b ae λy ao=>wp (lft (F x y)) ao Q:=by simp [op2]
@[simp ↓] theorem p8' {F:List D->Option α}{t:M (List D)}:wp (fn1 F t) Z Q↔wp t Z λds ae=>wp (lft (F ds)) ae Q:=by simp [fn1]
@[simp ↓] theorem oO':wp nilA Z QL↔QL [] Z:=by simp [nilA]
@[simp ↓] theorem mS' {g:M D}{t:M (List D)}:wp (consA g t) Z QL↔wp g Z λd ae=>wp t ae λds ao=>QL (d::ds) ao:=by simp [consA]
@[simp ↓] theorem q5' {t:M (List D)}:wp (tupA t) Z QD↔wp t Z λds ae=>wp (lft (if ds.length<=lim then some (.tup ds) else none)) ae QD:=by simp [tupA]
@[simp ↓] theorem q6' {t:M (List D)}:wp (lstA t) Z QL↔wp t Z λds ae=>wp (lft (if ds.length<=lim then some ds else none)) ae QL:=by simp [lstA]
@[simp ↓] theorem p9' {t:M (List D)}:wp (frz t) Z QD↔wp t Z λds ae=>QD (.lst ds) ae:=by simp [frz]
@[simp ↓] theorem rC' {g:M D}:wp (tst g) Z QB↔wp g Z λd ae=>wp (lft (asB d)) ae QB:=by simp [tst]
@[simp] theorem rD' {b:Bool}:asB (.bl b)=some b:=rfl
@[simp] theorem q7' {b:Int}:asI (.int b)=some b:=rfl
@[simp ↓] theorem q8' {a b:M Bool}:wp (andT a b) Z QB↔wp a Z λk ae=>if k=true then wp b ae QB else QB false ae:=by
 simp only [andT,aB']
 constructor<;>(intro h;refine h.mono λk ae h=>?_)<;>(cases k<;>simpa using h)
@[simp ↓] theorem rE' {a b:M Bool}:wp (orT a b) Z QB↔wp a Z λk ae=>if k=true then QB true ae else wp b ae QB:=by
 simp only [orT,aB']
 constructor<;>(intro h;refine h.mono λk ae h=>?_)<;>(cases k<;>simpa using h)
@[simp ↓] theorem q9' {a:M Bool}:wp (notT a) Z QB↔wp a Z λk ae=>QB (!k) ae:=by simp [notT]
@[simp ↓] theorem ra' {a b:M D}:wp (andV a b) Z QD↔wp a Z λd ae=>wp (lft (asB d)) ae λk ao=>if k=true then wp b ao QD else QD (.bl false) ao:=by
 simp only [andV,aB']
 constructor<;>(intro h;refine h.mono λd ae h=>h.mono λk ao h=>?_)<;>(cases k<;>simpa using h)
theorem je' {a b:M Fl}:wp (seqS a b) Z QS↔wp a Z λf ae=>match f with
  | .nx=>wp b ae QS
  | .rt r=>QS (.rt r) ae
  | .bk=>QS .bk ae
  | .ct=>QS .ct ae:=by
 simp only [seqS,aB']
 constructor<;>(intro h;refine h.mono λf ae h=>?_)<;>(cases f<;>simpa using h)
@[simp ↓] theorem rb' {a:M D}:wp (retS a) Z QS↔wp a Z λd ae=>QS (.rt (.val d)) ae:=by simp [retS]
@[simp ↓] theorem rc' {a:M (List D)}:wp (retO a) Z QS↔wp a Z λd ae=>QS (.rt (.own d)) ae:=by simp [retO]
@[simp ↓] theorem lw' {c:M Bool}{a b:M Fl}:wp (ifS c a b) Z QS↔wp c Z λk ae=>if k=true then wp a ae QS else wp b ae QS:=by
 simp only [ifS,aB']
 constructor<;>(intro h;refine h.mono λk ae h=>?_)<;>(cases k<;>simpa using h)
@[simp ↓] theorem rd' {i:Nat}{q:R}:wp (putS i q) Z QU↔i < Z.length/\QU () (Z.set i (some q)):=by
 unfold wp putS
 constructor
 ·rintro ⟨a,aj,e,h⟩
  obtain ⟨h1,h2⟩:=aq' e
  cases h2
  exact ⟨h1,h⟩
 ·rintro ⟨h1,h2⟩
  exact ⟨(),_,by rw [if_pos h1],h2⟩
@[simp ↓] theorem rF' {i:Nat}{d:D}:wp (tgN i d) Z QU↔i < Z.length/\QU () (Z.set i (some (.val d))):=by simp [tgN]
@[simp ↓] theorem qW':wp (tgNil []) Z QU↔QU () Z:=by simp [tgNil]
@[simp ↓] theorem qT' {f:D->M Unit}{t:List D->M Unit}{d:D}{ds:List D}:wp (tgCons f t (d::ds)) Z QU↔wp (f d) Z λ_ ae=>wp (t ds) ae QU:=by simp [tgCons]
@[simp ↓] theorem qX' {n:Nat}{t:List D->M Unit}{ds:List D}:wp (tgTup n t (.tup ds)) Z QU↔ds.length=n/\wp (t ds) Z QU:=by
 unfold tgTup
 by_cases h:ds.length=n
 ·simp [h]
 ·simp only [h,if_false,false_and,iff_false]
  rintro ⟨_,_,e,_⟩;cases e
@[simp ↓] theorem oP' {i:Nat}{g:M D}:wp (setV i g) Z QS↔wp g Z λd ae=>i < ae.length/\QS .nx (ae.set i (some (.val d))):=by simp [setV]
@[simp ↓] theorem re' {i:Nat}{g:M (List D)}:wp (setO i g) Z QS↔wp g Z λd ae=>i < ae.length/\QS .nx (ae.set i (some (.own d))):=by simp [setO]
@[simp ↓] theorem cz' {i:Nat}{m:M α}:wp (mutS i m) Z Q↔isMut Z i=true/\wp m Z Q:=by
 unfold mutS wp
 by_cases h:isMut Z i=true
 ·simp [h]
 ·simp [h]
@[simp ↓] theorem sa' {i:Nat}{F:List D->Option (List D)}:wp (wr i F) Z QU↔match Z[i]? with
  | some (some (.own ds))=>∃ es,F ds=some es/\QU () (Z.set i (some (.own es)))
  | some (some (.bor ds))=>∃ es,F ds=some es/\QU () (Z.set i (some (.bor es)))
  | _=>False:=by
 unfold wp wr
 rcases e:Z[i]? with _ | _ | r
 ·simp
 ·simp
 ·cases r with
  | val d=>simp
  | fro d=>simp
  | dic d=>simp
  | own ds =>
   rcases he:F ds with _ | es
   ·simp [he]
   ·simp [he]
    exact ⟨λ⟨_,q⟩=>q,λq=>⟨(),q⟩⟩
  | bor ds =>
   rcases he:F ds with _ | es
   ·simp [he]
   ·simp [he]
    exact ⟨λ⟨_,q⟩=>q,λq=>⟨(),q⟩⟩
@[simp ↓] theorem rf' {i:Nat}{g:M D}:wp (appS i g) Z QS↔isMut Z i=true/\wp g Z λd ae=>wp (wr i (appF d)) ae λ_ ao=>QS .nx ao:=by simp only [appS,cz',aB',dj']
@[simp ↓] theorem rg' {i:Nat}{g:M D}:wp (extS i g) Z QS↔isMut Z i=true/\wp g Z λd ae=>wp (wr i (extF d)) ae λ_ ao=>QS .nx ao:=by simp only [extS,cz',aB',dj']
@[simp ↓] theorem rG' {i:Nat}{gi gv:M D}:wp (stS i gi gv) Z QS↔wp gv Z λd ae=>isMut ae i=true/\wp gi ae λn ao=>wp (lft (asI n)) ao λk aQ=>wp (wr i (stF k d)) aQ λ_ aY=>QS .nx aY:=by simp only [stS,cz',aB',dj']
@[simp ↓] theorem rh' {i:Nat}:wp (look i) Z QD↔match Z[i]? with
  | some (some (.own ds))=>QD (.lst ds) Z
  | some (some (.bor ds))=>QD (.lst ds) Z
  | _=>False:=by
 unfold wp look
 rcases e:Z[i]? with _ | _ | r
 ·simp
 ·simp
 ·cases r<;>simp<;>exact ⟨λ⟨_,_,⟨h1,h2⟩,q⟩=>by subst h1;subst h2;exact q,λq=>⟨_,_,⟨rfl,rfl⟩,q⟩⟩
@[simp ↓] theorem rH' {i:Nat}{g:M D}:wp (atN i g) Z QD↔isMut Z i=true/\wp g Z λn ae=>wp (look i) ae λl ao=>wp (lft (ixF l n)) ao QD:=by simp only [atN,cz',aB']
@[simp ↓] theorem ri' {i:Nat}:wp (lenN i) Z QD↔wp (look i) Z λl ao=>wp (lft (lenF [l])) ao QD:=by simp only [lenN,aB']
@[simp ↓] theorem rj' {neg:Bool}{i:Nat}{g:M D}:wp (cmpN neg i g) Z QD↔isMut Z i=true/\wp g Z λn ae=>wp (look i) ae λl ao=>wp (lft (eqF neg l n)) ao QD:=by simp only [cmpN,cz',aB']
@[simp ↓] theorem rI' {g:M D}{QO:Option Int->Gm->Prop}:wp (prt g) Z QO↔wp g Z λd ae=>wp (lft (asI d)) ae λi ao=>QO (some i) ao:=by simp [prt]
@[simp ↓] theorem rJ' {F:D->Option Int->Option Int->Option α}{g:M D}{gl gh:M (Option Int)}:wp (sl3 F g gl gh) Z Q↔wp g Z λd ae=>wp gl ae λl ao=>wp gh ao λh aQ=>wp (lft (F d l h)) aQ Q:=by simp [sl3]
@[simp ↓] theorem rK' {g:M D}:wp (itS g) Z QL↔wp g Z λd ae=>wp (lft (seqI d)) ae QL:=by simp [itS]
@[simp ↓] theorem rk' {it:M (List D)}{ay:D->M Unit}{body:M Fl}:wp (forS it ay body) Z QS↔wp it Z λds ae=>wp (forM ay body ds) ae QS:=by simp [forS]
@[simp ↓] theorem qY' {i:Nat}{g:List R->Option (R×List R)}{t:M (List D)}{QR:R->Gm->Prop}:wp (callB i g t) Z QR↔isMut Z i=true/\wp t Z λds ae=>match ae[i]? with
  | some (some (.own c))=>wpB g c ds λr c'=>QR r (ae.set i (some (.own c')))
  | some (some (.bor c))=>wpB g c ds λr c'=>QR r (ae.set i (some (.bor c')))
  | _=>False:=by
 simp only [callB,cz',aB']
 refine and_congr_right λ_=>?_
 have key:∀ (ds:List D) (ae:Gm),wp (λZ:Gm=>match Z[i]? with
   | some (some (.own c))=>match bcF g c ds with
    | some (r,c')=>some (r,Z.set i (some (.own c')))
    | none=>none
   | some (some (.bor c))=>match bcF g c ds with
    | some (r,c')=>some (r,Z.set i (some (.bor c')))
    | none=>none
   | _=>none) ae QR↔(match ae[i]? with
  | some (some (.own c))=>wpB g c ds λr c'=>QR r (ae.set i (some (.own c')))
  | some (some (.bor c))=>wpB g c ds λr c'=>QR r (ae.set i (some (.bor c')))
  | _=>False):=by
  intro ds ae
  unfold wp wpB
  dsimp only
  rcases e:ae[i]? with _ | _ | r
  ·simp
  ·simp
  ·cases r with
   | val d=>simp
   | fro d=>simp
   | dic d=>simp
   | own c =>
    rcases he:bcF g c ds with _ | ⟨r,c'⟩
    ·simp [he]
    ·simp only [he]
     constructor
     ·rintro ⟨a,b,h,q⟩;cases h;exact ⟨_,_,rfl,q⟩
     ·rintro ⟨a,b,h,q⟩;cases h;exact ⟨_,_,rfl,q⟩
   | bor c =>
    rcases he:bcF g c ds with _ | ⟨r,c'⟩
    ·simp [he]
    ·simp only [he]
     constructor
     ·rintro ⟨a,b,h,q⟩;cases h;exact ⟨_,_,rfl,q⟩
     ·rintro ⟨a,b,h,q⟩;cases h;exact ⟨_,_,rfl,q⟩
 constructor
 ·intro h;exact h.mono λds ae h=>(key ds ae).mp h
 ·intro h;exact h.mono λds ae h=>(key ds ae).mpr h
@[simp ↓] theorem rL' {i:Nat}{g:List R->Option (R×List R)}{t:M (List D)}:wp (cbV i g t) Z QD↔wp (callB i g t) Z λr ae=>wp (lft (asV r)) ae QD:=by simp only [cbV,aB']
@[simp ↓] theorem rM' {i:Nat}{g:List R->Option (R×List R)}{t:M (List D)}:wp (cbO i g t) Z QL↔wp (callB i g t) Z λr ae=>wp (lft (asO r)) ae QL:=by simp only [cbO,aB']
@[simp] theorem rl' {d:D}:asV (.val d)=some d:=rfl
@[simp] theorem rm' {d:List D}:asO (.own d)=some d:=rfl
theorem bf' {ay:D->M Unit}{body:M Fl}{ds:List D} (J:Nat->Gm->Prop) (h0:J 0 Z)
  (hs:∀ (i:Nat) (d:D) (Z:Gm),ds[i]?=some d->J i Z->wp (ay d) Z λ_ ae=>wp body ae λf ao=>match f with
   | .nx=>J (i+1) ao
   | .ct=>J (i+1) ao
   | .bk=>QS .nx ao
   | .rt r=>QS (.rt r) ao) (hd:∀ Z,J ds.length Z->QS .nx Z):wp (forM ay body ds) Z QS:=by
 have key:∀ (n:Nat) (es:List D) (Z:Gm) (i:Nat),es.length=n->ds.drop i=es->i<=ds.length->J i Z->wp (forM ay body es) Z QS:=by
  intro n
  induction n with
  | zero =>
   intro es Z i hl he hi hj
   have:es=[]:=length_eq_zero_iff.mp hl
   subst this
   have eD:i=ds.length:=by
    have:=congrArg length he
    rw [length_drop] at this
    simp at this;omega
   subst eD
   exact ⟨_,_,rfl,hd Z hj⟩
  | succ n ih =>
   intro es Z i hl he hi hj
   cases es with
   | nil=>simp at hl
   | cons d es =>
    have bt:i < ds.length:=by
     have:=congrArg length he
     rw [length_drop,length_cons] at this
     omega
    have r9:ds.drop i=ds[i]::ds.drop (i+1):=drop_eq_getElem_cons bt
    rw [r9] at he
    injection he with e1 e2
    have bj:ds[i]?=some d:=by rw [getElem?_eq_getElem bt,e1]
    have step:=hs i d Z bj hj
    rw [forM,aB']
    refine step.mono λ_ ae h1=>?_
    rw [aB']
    refine h1.mono λf ao h2=>?_
    cases f with
    | nx=>exact ih es ao (i+1) (by simpa using hl) e2 bt h2
    | ct=>exact ih es ao (i+1) (by simpa using hl) e2 bt h2
    | bk=>exact ⟨_,_,rfl,h2⟩
    | rt r=>exact ⟨_,_,rfl,h2⟩
 exact key ds.length ds Z 0 rfl rfl (zero_le _) h0
theorem bu' {n ar:Nat}{body:M Fl}{rs:List R}{QR:R->List R->Prop} (hl:rs.length=ar) (h:wp body (rs.map some++replicate (n - rs.length) none) λf aj=>∃ r,flR f=some r/\∃ l,fin rs aj=some l/\QR r l):wpF (fnD n ar body) rs QR:=by
 obtain ⟨f,aj,e,r,e1,l,e2,q⟩:=h
 refine ⟨r,l,?_,q⟩
 unfold fnD
 rw [if_pos hl]
 unfold fnD1
 rw [e]
 simp only [e1,e2]
theorem cI' {g:List R->Option (R×List R)}{ds:List D}{d:D} (h:wpF g (ds.map .val) λr _=>r=.val d):cvF g ds=some d:=by
 obtain ⟨r,aT,e,rfl⟩:=h
 unfold cvF
 rw [e]
theorem hV' {g:List R->Option (R×List R)}{ds:List D}{P:List D->Prop} (h:wpF g (ds.map .val) λr _=>∃ d,r=.own d/\P d):∃ d,coF g ds=some d/\P d:=by
 obtain ⟨r,aT,e,d,rfl,hp⟩:=h
 exact ⟨d,by unfold coF;rw [e],hp⟩
theorem qa' {g:List R->Option (R×List R)}{c ds:List D}{QR:R->List D->Prop} (h:wpF g (.bor c::ds.map .val) λr aT=>∃ c' t,aT=.bor c'::t/\QR r c'):wpB g c ds QR:=by
 obtain ⟨r,aT,e,c',t,rfl,q⟩:=h
 exact ⟨r,c',by unfold bcF;rw [e],q⟩
end
end DL
namespace DL
open PySem L2
section
variable {α:Type}{Z:Gm}{Q:α->Gm->Prop}{QD:D->Gm->Prop}{QL:List D->Gm->Prop}{i j:Int}
@[simp ↓] theorem bo' {c:Prop} [Decidable c]{a:α}:wp (lft (if c then some a else none)) Z Q↔c/\Q a Z:=by
 by_cases h:c
 ·simp [h]
 ·simp only [h,if_false,false_and,iff_false]
  rintro ⟨_,_,e,_⟩;cases e
@[simp] theorem sb':subI (.int i) (.int j)=some (.int (i - j)):=rfl
@[simp] theorem sc':addF (.int i) (.int j)=some (.int (i+j)):=rfl
@[simp] theorem f_lt:ltI (.int i) (.int j)=some (.bl (decide (i < j))):=rfl
@[simp] theorem f_le:leI (.int i) (.int j)=some (.bl (decide (i<=j))):=rfl
@[simp] theorem f_gt:gtI (.int i) (.int j)=some (.bl (decide (j < i))):=rfl
@[simp] theorem f_ge:geI (.int i) (.int j)=some (.bl (decide (j<=i))):=rfl
@[simp ↓] theorem rN':wp (lft (modI (.int i) (.int j))) Z QD↔0 < j/\QD (.int (i % j)) Z:=by simp [modI,intF]
@[simp ↓] theorem rO':wp (lft (divI (.int i) (.int j))) Z QD↔(0 < j/\j < 2 ^ 200)/\QD (.int (i / j)) Z:=by simp only [divI,intF,decide_eq_true_eq,bo']
@[simp ↓] theorem rP':wp (lft (mulI (.int i) (.int j))) Z QD↔((-(2 ^ 64) < i/\i < 2 ^ 64)\/(-(2 ^ 64) < j/\j < 2 ^ 64))/\QD (.int (i*j)) Z:=by simp only [mulI,intF,decide_eq_true_eq,bo']
@[simp ↓] theorem rQ':wp (lft (powI (.int i) (.int j))) Z QD↔(0<=j/\j<=1000000/\i.natAbs < 2 ^ 64)/\QD (.int (i ^ j.toNat)) Z:=by simp only [powI,intF,decide_eq_true_eq,bo']
@[simp] theorem sd' {ds:List D}:ixF (.lst ds) (.int i)=atI ds i:=rfl
@[simp] theorem se' {ds:List D}:ixF (.tup ds) (.int i)=atI ds i:=rfl
theorem cX' {α:Type}{ds:List α}{n:Nat}:atI ds (n:Int)=ds[n]?:=by
 unfold atI ixN
 rw [if_pos (by omega)]
 by_cases h:(n:Int) < ds.length
 ·rw [if_pos h];simp
 ·rw [if_neg h]
  have:ds.length<=n:=by omega
  simp [List.getElem?_eq_none this]
@[simp] theorem sf' {α:Type}{a:α}{ds:List α}:atI (a::ds) 0=some a:=by
 rw [show (0:Int)=((0:Nat):Int) from rfl,cX'];rfl
@[simp] theorem sg' {α:Type}{a b:α}{ds:List α}:atI (a::b::ds) 1=some b:=by
 rw [show (1:Int)=((1:Nat):Int) from rfl,cX'];rfl
@[simp] theorem sh' {α:Type}{a b c:α}{ds:List α}:atI (a::b::c::ds) 2=some c:=by
 rw [show (2:Int)=((2:Nat):Int) from rfl,cX'];rfl
theorem lx' {α:Type}{ds:List α}{i:Int} (h0:0<=i) (h1:i < ds.length):∃ a,atI ds i=some a/\a∈ds:=by
 obtain ⟨n,rfl⟩:=Int.eq_ofNat_of_zero_le h0
 have h:n < ds.length:=by omega
 exact ⟨ds[n],by rw [cX',getElem?_eq_getElem h],getElem_mem h⟩
@[simp] theorem si' {a b d:D}{ds:List D}:stF 1 d (a::b::ds)=some (a::d::ds):=by
 unfold stF ixN
 rw [if_pos (by omega),if_pos (by simp;omega)]
 rfl
@[simp] theorem sj' {a b c d:D}{ds:List D}:stF 2 d (a::b::c::ds)=some (a::b::d::ds):=by
 unfold stF ixN
 rw [if_pos (by omega),if_pos (by simp;omega)]
 rfl
@[simp] theorem rR' {ds:List D}:lenF [.lst ds]=some (.int ds.length):=rfl
@[simp] theorem rS' {ds:List D}:lenF [.tup ds]=some (.int ds.length):=rfl
@[simp] theorem sk':minF [.int i,.int j]=some (.int (min i j)):=by
 unfold minF;dsimp only;congr 2;split<;>omega
@[simp] theorem rT' {ds:List D}:tupF [.lst ds]=some (.tup ds):=rfl
@[simp] theorem rU' {ds:List D}:tupF [.tup ds]=some (.tup ds):=rfl
@[simp] theorem rV' {ds:List D}:lstF [.lst ds]=some ds:=rfl
@[simp] theorem rW' {ds:List D}:lstF [.tup ds]=some ds:=rfl
@[simp] theorem rX' {ds:List D}:seqI (.lst ds)=some ds:=rfl
@[simp] theorem rY' {ds:List D}:seqI (.tup ds)=some ds:=rfl
@[simp] theorem rZ' {b:Bool}:reprF [.bl b]=some (.str (if b then "True" else "False")):=rfl
@[simp] theorem sm' {ds:List D}{lo hi:Option Int}:slF (.lst ds) lo hi=some (.lst (cutD ds lo hi)):=rfl
@[simp] theorem r0' {xs ys:List D}:zipI [.lst xs,.lst ys]=some (pairsD xs ys):=rfl
@[simp] theorem r3' {xs ys:List D}:zipI [.tup xs,.tup ys]=some (pairsD xs ys):=rfl
@[simp] theorem ro' {xs:List D}:enumI [.lst xs]=some (numD 0 xs):=rfl
@[simp] theorem rp' {xs:List D}:enumI [.tup xs]=some (numD 0 xs):=rfl
@[simp ↓] theorem rq':wp (lft (rngI1 [.int j])) Z QL↔(-1000000<=j/\j<=1000000)/\QL (rngD 0 j.toNat) Z:=by simp only [rngI1,bo']
@[simp ↓] theorem rt':wp (lft (rngI2 [.int i,.int j])) Z QL↔((-1000000<=i/\i<=1000000)/\-1000000<=j/\j<=1000000)/\QL (rngD i (j - i).toNat) Z:=by simp only [rngI2,bo']
@[simp ↓] theorem sn' {neg:Bool}{a b:D}:wp (lft (eqF neg a b)) Z QD↔(dep a<=100\/dep b<=100)/\QD (.bl (if neg then !deq a b else deq a b)) Z:=by simp only [eqF,bo']
@[simp ↓] theorem r4' {xs ys:List D}:wp (lft (catF (.lst xs) (.lst ys))) Z QL↔xs.length+ys.length<=lim/\QL (xs++ys) Z:=by simp only [catF,bo']
@[simp] theorem ru' {a:Int}:dep (.int a)=0:=by simp [dep]
@[simp] theorem rv':dep (.lst [])=1:=by simp [dep,depA]
@[simp] theorem rx' {a b:Int}:deq (.int a) (.int b)=(a == b):=by simp [deq]
@[simp] theorem f3' {ds:List D}:deq (.lst ds) (.lst [])=ds.isEmpty:=by cases ds<;>simp [deq,deqA]
@[simp] theorem qZ' {a b:Bool}:deq (.str (if a then "True" else "False")) (.str (if b then "True" else "False"))=(a == b):=by cases a<;>cases b<;>decide
@[simp] theorem ly':lim=1000000:=rfl
@[simp] theorem r5' {d:D}{ds:List D}{P:List D->Prop}:(∃ es,appF d ds=some es/\P es)↔ds.length < 1000000/\P (ds++[d]):=by
 unfold appF
 rw [ly']
 by_cases h:ds.length < 1000000<;>simp [h]
@[simp] theorem r6' {xs ds:List D}{P:List D->Prop}:(∃ es,extF (.lst xs) ds=some es/\P es)↔ds.length+xs.length<=1000000/\P (ds++xs):=by
 unfold extF
 rw [ly']
 by_cases h:ds.length+xs.length<=1000000<;>simp [h]
theorem ah' {a b:M Fl}{QS:Fl->Gm->Prop} (h:∀ K:Fl->Gm->Prop,(∀ ae,wp b ae QS->K .nx ae)->(∀ r ae,QS (.rt r) ae->K (.rt r) ae)->wp a Z K):wp (seqS a b) Z QS:=by
 rw [je']
 exact h _ (λ_ h=>h) (λ_ _ h=>h)
theorem aE' {a b:M Fl}{QS:Fl->Gm->Prop} (P:Gm->Prop) (h:∀ K:Fl->Gm->Prop,(∀ ae,P ae->K .nx ae)->(∀ r ae,QS (.rt r) ae->K (.rt r) ae)->wp a Z K) (h2:∀ ae,P ae->wp b ae QS):wp (seqS a b) Z QS:=by
 rw [je']
 exact h _ (λ_ p=>h2 _ p) (λ_ _ h=>h)
theorem cA' {n ar:Nat}{body:M Fl}{rs:List R}{QR:R->List R->Prop} (hl:rs.length=ar) (h:∀ K:Fl->Gm->Prop,(∀ r aj,(∃ l,fin rs aj=some l/\QR r l)->K (.rt r) aj)->(∀ aj,(∃ l,fin rs aj=some l/\QR (.val .non) l)->K .nx aj)->wp body (rs.map some++replicate (n - rs.length) none) K):wpF (fnD n ar body) rs QR :=
 bu' hl (h _ (λr _ h=>⟨r,rfl,h⟩) (λ_ h=>⟨_,rfl,h⟩))
theorem er' {n ar:Nat}{body:M Fl}{c ds:List D}{QR:R->List D->Prop} (hl:ds.length+1=ar) (h:∀ K:Fl->Gm->Prop,(∀ r c' aj,(∃ t,fin (ds.map .val) aj=some t)->QR r c'->K (.rt r) (some (.bor c')::aj))->(∀ c' aj,(∃ t,fin (ds.map .val) aj=some t)->QR (.val .non) c'->K .nx (some (.bor c')::aj))->wp body ((.bor c::ds.map .val).map some++replicate (n - (ds.length+1)) none) K):wpB (fnD n ar body) c ds QR:=by
 refine qa' (cA' (by simpa using hl) λK k1 k2=>?_)
 refine (by simpa using h K (λr c' aj ⟨t,e⟩ q=>k1 r _ ⟨_,by simp [fin,e],c',t,rfl,q⟩) (λc' aj ⟨t,e⟩ q=>k2 _ ⟨_,by simp [fin,e],c',t,rfl,q⟩))
theorem hW' {α:Type}{m:Nat}{ay:D->M Unit}{ts:M Bool}{el:M D}{it:M (List D)} (xs:List α) (f:α->D) (p:α->Bool) (v:α->D)
  (h:wp it Z λds ae=>ds=xs.map f/\xs.length<=1000000/\(∀ x∈xs,∀ cs:Gm,cs.length=m->wp (ay (f x)) (cs++ae) λ_ ao=>wp ts ao λb aQ=>b=p x/\(if b=true then wp el aQ λy aY=>y=v x/\∃ bH,bH.length=m/\aY=bH++ae else ∃ bH,bH.length=m/\aQ=bH++ae)) ∧
   QL ((xs.filter p).map v) ae):wp (compO m it ay ts el) Z QL:=by
 unfold compO
 rw [aB']
 refine h.mono λds ae ⟨fI,hl,hp,hq⟩=>?_
 subst fI
 rw [if_pos (by simpa using hl)]
 have key:∀ (es:List α) (cs:Gm),(∀ d∈es,d∈xs)->cs.length=m->∃ bH,bH.length=m/\compM ay ts el (es.map f) (cs++ae)=some ((es.filter p).map v,bH++ae):=by
  intro es
  induction es with
  | nil=>intro cs _ hc;exact ⟨cs,hc,rfl⟩
  | cons d es ih =>
   intro cs hm hc
   obtain ⟨u,ao,e1,b,aQ,e2,hb,h3⟩:=hp d (hm d mem_cons_self) cs hc
   have fQ:∀ d∈es,d∈xs:=λd hd=>hm d (mem_cons_of_mem _ hd)
   cases b with
   | false =>
    rw [if_neg Bool.false_ne_true] at h3
    obtain ⟨bH,bI,rfl⟩:=h3
    obtain ⟨kM,cR,e3⟩:=ih bH fQ bI
    refine ⟨kM,cR,?_⟩
    rw [map_cons,compM]
    unfold bnd
    simp only [e1,e2,false_eq_true,if_false]
    rw [e3,filter_cons,← hb]
    simp
   | true =>
    rw [if_pos rfl] at h3
    obtain ⟨x,aY,e4,rfl,bH,bI,rfl⟩:=h3
    obtain ⟨kM,cR,e3⟩:=ih bH fQ bI
    refine ⟨kM,cR,?_⟩
    rw [map_cons,compM]
    unfold bnd
    simp only [e1,e2,if_true,e4]
    rw [e3,filter_cons,← hb]
    rfl
 obtain ⟨bH,bI,e⟩:=key xs (replicate m none) (λ_ h=>h) (by simp)
 refine ⟨_,_,?_,hq⟩
 unfold inC
 rw [e]
 simp [bI,List.drop_append]
theorem bd' {α:Type}{ay:D->M Unit}{ts:M Bool}{el:M D}{it:M (List D)} (xs:List α) (f:α->D) (p:α->Bool) (v:α->D)
  (h:wp it Z λds ae=>ds=xs.map f/\xs.length<=1000000/\(∀ x∈xs,∀ a,wp (ay (f x)) (a::ae) λ_ ao=>wp ts ao λb aQ=>b=p x/\(if b=true then wp el aQ λy aY=>y=v x/\∃ a',aY=a'::ae else ∃ a',aQ=a'::ae)) ∧
   QL ((xs.filter p).map v) ae):wp (compO 1 it ay ts el) Z QL:=by
 refine hW' xs f p v (h.mono λds ae ⟨h1,h2,h3,h4⟩=>⟨h1,h2,λx hx cs hc=>?_,h4⟩)
 obtain ⟨a,rfl⟩:=List.length_eq_one_iff.mp hc
 refine (h3 x hx a).mono λ_ ao h=>h.mono λb aQ ⟨h5,h6⟩=>⟨h5,?_⟩
 cases b with
 | true=>simp only [if_true] at h6 ⊢;exact h6.mono λy aY ⟨h7,a',h8⟩=>⟨h7,[a'],rfl,h8⟩
 | false=>simp only [false_eq_true,if_false] at h6 ⊢;obtain ⟨a',h8⟩:=h6;exact ⟨[a'],rfl,h8⟩
theorem mT' {α:Type}{ay:D->M Unit}{ts:M Bool}{el:M D}{it:M (List D)} (xs:List α) (f:α->D) (p:α->Bool) (v:α->D)
  (h:wp it Z λds ae=>ds=xs.map f/\xs.length<=1000000/\(∀ x∈xs,∀ a b,wp (ay (f x)) (a::b::ae) λ_ ao=>wp ts ao λb aQ=>b=p x/\(if b=true then wp el aQ λy aY=>y=v x/\∃ a' b',aY=a'::b'::ae else ∃ a' b',aQ=a'::b'::ae)) ∧
   QL ((xs.filter p).map v) ae):wp (compO 2 it ay ts el) Z QL:=by
 refine hW' xs f p v (h.mono λds ae ⟨h1,h2,h3,h4⟩=>⟨h1,h2,λx hx cs hc=>?_,h4⟩)
 obtain ⟨a,b,rfl⟩:∃ a b,cs=[a,b]:=by
  match cs,hc with
  | [a,b],_=>exact ⟨a,b,rfl⟩
 refine (h3 x hx a b).mono λ_ ao h=>h.mono λb aQ ⟨h5,h6⟩=>⟨h5,?_⟩
 cases b with
 | true=>simp only [if_true] at h6 ⊢;exact h6.mono λy aY ⟨h7,a',b',h8⟩=>⟨h7,[a',b'],rfl,h8⟩
 | false=>simp only [false_eq_true,if_false] at h6 ⊢;obtain ⟨a',b',h8⟩:=h6;exact ⟨[a',b'],rfl,h8⟩
theorem mU' {α:Type}{f:α->Bool}{xs:List α}:blsD (xs.map λx=>.bl (f x))=some (xs.map f):=by
 induction xs with
 | nil=>rfl
 | cons x xs ih=>simp only [map_cons,blsD,ih]
theorem mV' {α:Type}{f:α->Bool}{xs:List α}:anyF [.lst (xs.map λx=>.bl (f x))]=some (.bl (xs.any f)):=by
 unfold anyF
 simp only [mU']
 simp [Function.comp_def]
end
section
variable {α:Type}{Z:Gm}{Q:α->Gm->Prop}{QD:D->Gm->Prop}{QL:List D->Gm->Prop}{i j:Int}
@[simp] theorem so' {ds:List D}:rvF (.lst ds) (.int (-1))=some ds.reverse:=by simp [rvF]
theorem mW' {xs:List D} (h:SortOk xs):sortF [.lst xs]=some (sortD xs):=by
 unfold sortF
 exact if_pos h
end
end DL
namespace DL
theorem dW' {α:Type}:∀ (l m:List α),l.Nodup->(∀ x∈l,x∈m)->l.length<=m.length
 | [],m,_,_=>zero_le _
 | x::l,m,nd,h=>by
  obtain ⟨a,b,rfl⟩:=append_of_mem (h x mem_cons_self)
  rw [nodup_cons] at nd
  have:=dW' l (a++b) nd.2 (λy hy=>by
   have:=h y (mem_cons_of_mem _ hy)
   rcases mem_append.mp this with z | z
   ·exact (mem_append_left _ z)
   ·rcases mem_cons.mp z with z | z
    ·subst z;exact absurd hy nd.1
    ·exact (mem_append_right _ z))
  simp at this ⊢
  omega
end DL
namespace Own
open PySem PySem.Spec PyProof.Rows L2 DL
noncomputable def cJ':M Fl :=
 (seqS (setO 1 (lstA nilA))
  (seqS (forS (itS (nm 0)) (tgN 2)
  (extS 1 (frz (fn1 rngI2 (consA (op2 ixF (nm 2) (ret (.int 0))) (consA (op2 addF (op2 ixF (nm 2) (ret (.int 1))) (ret (.int 1))) nilA))))))
  (retO (fn1 setIF (consA (nm 1) nilA)))))
def aJ':List R->Option (R×List R):=fnD 3 1 cJ'
noncomputable def dX':M Fl :=
 (retO (compO 2 (fn1 zipI (consA (nm 0) (consA (sl3 slF (nm 0) (prt (ret (.int 1))) (ret none)) nilA))) (tgTup 2 (tgCons (tgN 0) (tgCons (tgN 1) tgNil))) (tst (op2 ltI (op2 addF (nm 0) (ret (.int 1))) (nm 1))) (tupA (consA (op2 addF (nm 0) (ret (.int 1))) (consA (op2 subI (nm 1) (ret (.int 1))) nilA)))))
def bb':List R->Option (R×List R):=fnD 1 1 dX'
noncomputable def c2':M Fl :=
 (retS (fn1 sumF (consA (sl3 slF (nm 1) (prt (op2 ixF (nm 0) (ret (.int 0)))) (prt (op2 addF (op2 ixF (nm 0) (ret (.int 1))) (ret (.int 1))))) nilA)))
def aC':List R->Option (R×List R):=fnD 2 2 c2'
noncomputable def eV':M Fl :=
 (seqS (setV 3 (frz (fn1 (coF aJ') (consA (nm 0) nilA))))
  (seqS (setV 4 (frz (sortLam 2 (fn1 (cvF aC') (consA (nm 0) (consA (nm 1) nilA))) (frz (fn1 (coF bb') (consA (nm 3) nilA))))))
  (seqS (setV 5 (frz (fn1 sortF (consA (sl3 slF (nm 4) (ret none) (prt (op2 subI (nm 1) (ret (.int 1))))) nilA))))
  (seqS (setV 6 (frz (compO 1 (itS (sl3 slF (nm 4) (prt (op2 subI (nm 1) (ret (.int 1)))) (ret none))) (tgN 0) (ret true) (fn1 (cvF aC') (consA (nm 0) (consA (nm 3) nilA))))))
  (seqS (setV 7 (frz (op2 catF (sl3 slF (nm 3) (ret none) (prt (ret (.int 1)))) (frz (compO 1 (itS (nm 5)) (tgN 0) (ret true) (op2 addF (op2 ixF (nm 0) (ret (.int 1))) (ret (.int 1))))))))
  (seqS (setV 8 (frz (op2 catF (frz (compO 1 (itS (nm 5)) (tgN 0) (ret true) (op2 subI (op2 ixF (nm 0) (ret (.int 0))) (ret (.int 1))))) (sl3 slF (nm 3) (prt (un1 negI (ret (.int 1)))) (ret none)))))
  (retS (tupA (consA (fn1 sumF (consA (nm 6) nilA)) (consA (frz (fn1 zipLF (consA (nm 7) (consA (nm 8) nilA)))) (consA (op2 maxdF (nm 6) (ret (.int 0))) nilA)))))))))))
def bp':List R->Option (R×List R):=fnD 9 3 eV'
noncomputable def eW':M Fl :=
 (seqS (setV 2 (un1 negI (ret (.int 1))))
  (seqS (forS (itS (nm 0)) (tgN 3)
  (seqS (ifS (notT (tst (chn3 ltI leI ltI (nm 2) (op2 ixF (nm 3) (ret (.int 0))) (op2 ixF (nm 3) (ret (.int 1))) (nm 1))))
  (retS (ret (.bl false))) (ret .nx))
  (setV 2 (op2 ixF (nm 3) (ret (.int 1))))))
  (retS (ret (.bl true)))))
def dA':List R->Option (R×List R):=fnD 4 2 eW'
noncomputable def dY':M Fl :=
 (seqS (setV 5 (frz (compO 1 (itS (nm 0)) (tgN 0) (ret true) (fn1 minF (consA (fn1 (cvF aC') (consA (nm 0) (consA (nm 3) nilA))) (consA (nm 5) nilA))))))
  (retS (andV (op2 geI (nm 4) (ret (.int 0))) (op2 (eqF false) (nm 3) (op2 subI (fn1 sumF (consA (nm 5) nilA)) (op2 mulI (op2 subI (nm 1) (ret (.int 1))) (nm 4)))))))
def cj':List R->Option (R×List R):=fnD 6 5 dY'
noncomputable def eX':M Fl :=
 (seqS (setV 4 (op2 ixF (nm 3) (ret (.int 1))))
  (seqS (ifS (orT (tst (op2 gtI (fn1 lenF (consA (nm 4) nilA)) (nm 1))) (notT (tst (fn1 (cvF dA') (consA (nm 4) (consA (fn1 lenF (consA (nm 2) nilA)) nilA))))))
  (retS (ret (.bl false))) (ret .nx))
  (seqS (setV 5 (frz (fn1 (coF aJ') (consA (nm 0) nilA))))
  (seqS (setV 6 (frz (fn1 (coF aJ') (consA (nm 4) nilA))))
  (seqS (ifS (tst (fn1 anyF (consA (frz (compO 1 (itS (nm 5)) (tgN 0) (ret true) (op2 (inF true) (nm 0) (nm 7)))) nilA)))
  (retS (ret (.bl false))) (ret .nx))
  (seqS (setV 7 (fn1 sumF (consA (frz (compO 1 (itS (nm 6)) (tgN 0) (tst (op2 (inF true) (nm 0) (nm 6))) (op2 ixF (nm 3) (nm 0)))) nilA)))
  (retS (andV (op2 (eqF false) (op2 ixF (nm 3) (ret (.int 0))) (nm 7)) (fn1 (cvF cj') (consA (frz (fn1 (coF bb') (consA (nm 5) nilA))) (consA (nm 1) (consA (nm 2) (consA (nm 7) (consA (op2 ixF (nm 3) (ret (.int 2))) nilA))))))))))))))
def dB':List R->Option (R×List R):=fnD 8 4 eX'
noncomputable def c3':M Fl :=
 (seqS (ifS (tst (op2 geI (nm 0) (op2 powI (ret (.int 10)) (ret (.int 18)))))
  (retS (nm 0)) (ret .nx))
  (seqS (setV 2 (op2 modI (op2 addF (op2 addF (op2 mulI (op2 modI (nm 0) (ret (.int 998244353))) (ret (.int 40692))) (op2 mulI (nm 1) (ret (.int 69621)))) (ret (.int 1009))) (ret (.int 2147483399))))
  (seqS (setV 3 (op2 modI (op2 addF (op2 addF (op2 mulI (nm 2) (nm 2)) (op2 mulI (nm 1) (ret (.int 48271)))) (op2 modI (nm 0) (ret (.int 131071)))) (ret (.int 2147483647))))
  (seqS (setV 4 (op2 modI (op2 addF (op2 addF (op2 mulI (nm 3) (nm 3)) (op2 mulI (nm 2) (ret (.int 17)))) (ret (.int 3))) (ret (.int 2147483629))))
  (retS (op2 addF (op2 mulI (op2 addF (op2 mulI (nm 2) (ret (.int 2147483647))) (nm 3)) (ret (.int 2147483629))) (nm 4)))))))
def bC':List R->Option (R×List R):=fnD 5 2 c3'
noncomputable def dZ':M Fl :=
 (seqS (setO 1 (fn1 lstF (consA (sl3 slF (nm 0) (ret none) (prt (ret (.int 12)))) nilA)))
  (seqS (forS (fn1 enumI (consA (sl3 slF (nm 0) (prt (ret (.int 12))) (prt (ret (.int 63)))) nilA)) (tgTup 2 (tgCons (tgN 2) (tgCons (tgN 3) tgNil)))
  (stS 1 (op2 modI (nm 2) (ret (.int 12))) (op2 addF (atN 1 (op2 modI (nm 2) (ret (.int 12)))) (nm 3))))
  (retO (lstA (consA (nm 1) (consA (ret (.int 0)) (consA (ret (.int 0)) nilA)))))))
def ck':List R->Option (R×List R):=fnD 4 1 dZ'
noncomputable def dC':M Fl :=
 (seqS (ifS (tst (op2 ltI (atN 0 (ret (.int 2))) (nm 1)))
  (seqS (setV 2 (atN 0 (ret (.int 1))))
  (seqS (setV 3 (op2 mulI (ret (.int 11)) (nm 2)))
  (seqS (ifS (tst (op2 ltI (nm 2) (fn1 lenF (consA (atN 0 (ret (.int 0))) nilA))))
  (setV 3 (op2 ixF (atN 0 (ret (.int 0))) (nm 2))) (ifS (tst (op2 (eqF true) (atN 0 (ret (.int 0))) (frz (lstA nilA))))
  (setV 3 (op2 modI (op2 ixF (atN 0 (ret (.int 0))) (op2 modI (op2 addF (op2 mulI (nm 2) (ret (.int 7))) (ret (.int 1))) (fn1 lenF (consA (atN 0 (ret (.int 0))) nilA)))) (op2 addF (op2 powI (ret (.int 10)) (ret (.int 17))) (op2 mulI (ret (.int 3)) (nm 2))))) (ret .nx)))
  (seqS (stS 0 (ret (.int 1)) (op2 addF (nm 2) (ret (.int 1))))
  (stS 0 (ret (.int 2)) (fn1 (cvF bC') (consA (nm 3) (consA (nm 2) nilA)))))))) (ret .nx))
  (seqS (setV 4 (op2 modI (atN 0 (ret (.int 2))) (nm 1)))
  (seqS (stS 0 (ret (.int 2)) (op2 divI (atN 0 (ret (.int 2))) (nm 1)))
  (retS (nm 4)))))
def ap':List R->Option (R×List R):=fnD 5 2 dC'
noncomputable def bR':M Fl :=
 (seqS (setO 2 (lstA nilA))
  (seqS (forS (fn1 rngI1 (consA (op2 addF (ret (.int 1)) (cbV 0 ap' (consA (ret (.int 12)) nilA))) nilA)) (tgN 3)
  (seqS (setV 4 (cbV 0 ap' (consA (nm 1) nilA)))
  (seqS (ifS (andT (tst (cmpN true 2 (frz (lstA nilA)))) (tst (op2 (eqF false) (cbV 0 ap' (consA (ret (.int 5)) nilA)) (ret (.int 0)))))
  (setV 4 (fn1 minF (consA (op2 subI (nm 1) (ret (.int 1))) (consA (op2 addF (op2 addF (op2 ixF (atN 2 (un1 negI (ret (.int 1)))) (ret (.int 1))) (ret (.int 1))) (cbV 0 ap' (consA (ret (.int 2)) nilA))) nilA)))) (ret .nx))
  (seqS (setV 5 (fn1 minF (consA (op2 subI (nm 1) (ret (.int 1))) (consA (op2 addF (nm 4) (op2 ixF (frz (lstA (consA (ret (.int 0)) (consA (ret (.int 0)) (consA (ret (.int 1)) (consA (ret (.int 2)) (consA (cbV 0 ap' (consA (nm 1) nilA)) nilA))))))) (cbV 0 ap' (consA (ret (.int 5)) nilA)))) nilA))))
  (appS 2 (tupA (consA (nm 4) (consA (nm 5) nilA))))))))
  (retS (nm 2))))
def bk':List R->Option (R×List R):=fnD 6 2 bR'
noncomputable def cK':M Fl :=
 (seqS (setV 1 (op2 ixF (frz (lstA (consA (op2 addF (ret (.int 1)) (cbV 0 ap' (consA (ret (.int 12)) nilA))) (consA (ret (.int 30)) (consA (op2 addF (ret (.int 1)) (cbV 0 ap' (consA (ret (.int 100)) nilA))) (consA (ret (.int 100)) nilA)))))) (cbV 0 ap' (consA (ret (.int 4)) nilA))))
  (seqS (setV 2 (op2 ixF (frz (lstA (consA (ret (.int 1)) (consA (ret (.int 2)) (consA (ret (.int 6)) (consA (op2 powI (ret (.int 10)) (ret (.int 56))) nilA)))))) (cbV 0 ap' (consA (ret (.int 4)) nilA))))
  (retO (compO 1 (fn1 rngI1 (consA (nm 1) nilA)) (tgN 0) (ret true) (op2 mulI (cbV 1 ap' (consA (ret (.int 10)) nilA)) (cbV 1 ap' (consA (nm 3) nilA)))))))
def bS':List R->Option (R×List R):=fnD 3 1 cK'
noncomputable def d0':M Fl :=
 (seqS (setK 1 dlit0)
  (seqS (forS (itS (nm 0)) (tgTup 2 (tgCons (tgN 2) (tgCons (tgN 3) tgNil)))
  (forS (fn1 rngI2 (consA (nm 2) (consA (op2 addF (nm 3) (ret (.int 1))) nilA))) (tgN 4)
  (putG 1 (nm 4) (ret (.bl true)))))
  (retK 1)))
def bc':List R->Option (R×List R):=fnD 5 1 d0'
noncomputable def c4':M Fl :=
 (seqS (setO 1 (lstA nilA))
  (seqS (forS (itS (frz (sortKI (fn1 (ckF bc') (consA (nm 0) nilA))))) (tgN 2)
  (ifS (andT (tst (cmpN true 1 (frz (lstA nilA)))) (tst (op2 (eqF false) (op2 ixF (atN 1 (un1 negI (ret (.int 1)))) (ret (.int 1))) (op2 subI (nm 2) (ret (.int 1))))))
  (stS 1 (un1 negI (ret (.int 1))) (tupA (consA (op2 ixF (atN 1 (un1 negI (ret (.int 1)))) (ret (.int 0))) (consA (nm 2) nilA)))) (appS 1 (tupA (consA (nm 2) (consA (nm 2) nilA))))))
  (retS (nm 1))))
def cd':List R->Option (R×List R):=fnD 3 1 c4'
noncomputable def cL':M Fl :=
 (seqS (setO 3 (lstA (consA (op2 ixF (nm 1) (ret (.int 0))) nilA)))
  (seqS (forS (fn1 rngI2 (consA (ret (.int 1)) (consA (fn1 lenF (consA (nm 1) nilA)) nilA))) (tgN 4)
  (ifS (andT (tst (op2 ltI (lenN 3) (nm 2))) (tst (op2 (eqF false) (cbV 0 ap' (consA (ret (.int 2)) nilA)) (ret (.int 0)))))
  (appS 3 (op2 ixF (nm 1) (nm 4))) (stS 3 (un1 negI (ret (.int 1))) (tupA (consA (op2 ixF (atN 3 (un1 negI (ret (.int 1)))) (ret (.int 0))) (consA (op2 ixF (op2 ixF (nm 1) (nm 4)) (ret (.int 1))) nilA))))))
  (retS (nm 3))))
def bT':List R->Option (R×List R):=fnD 5 3 cL'
noncomputable def b8':M Fl :=
 (seqS (setK 3 (fn1 (ckF bc') (consA (nm 0) nilA)))
  (retS (fn1 sumF (consA (frz (compO 1 (itK (fn1 (ckF bc') (consA (nm 1) nilA))) (tgN 0) (inK true 4 (nm 0)) (op2 ixF (nm 3) (nm 0)))) nilA))))
def aK':List R->Option (R×List R):=fnD 4 3 b8'
noncomputable def jY':M Fl :=
 (seqS (setO 1 (fn1 (coF ck') (consA (nm 0) nilA)))
  (seqS (forS (fn1 rngI1 (consA (ret (.int 4)) nilA)) (tgN 2)
  (seqS (setV 3 (frz (cbO 1 bS' nilA)))
  (seqS (setV 4 (cbV 1 bk' (consA (fn1 lenF (consA (nm 3) nilA)) nilA)))
  (seqS (setV 5 (fn1 (cvF cd') (consA (nm 4) nilA)))
  (seqS (setV 6 (frz (compO 1 (fn1 rngI2 (consA (ret (.int 1)) (consA (op2 addF (fn1 lenF (consA (nm 5) nilA)) (ret (.int 2))) nilA))) (tgN 0) (ret true) (fn1 (cvF bp') (consA (frz (fn1 lstF (consA (nm 5) nilA))) (consA (nm 0) (consA (frz (fn1 lstF (consA (nm 4) nilA))) nilA)))))))
  (seqS (forS (fn1 rngI1 (consA (fn1 lenF (consA (nm 6) nilA)) nilA)) (tgN 7)
  (seqS (setV 8 (tupA (consA (op2 ixF (op2 ixF (nm 6) (nm 7)) (ret (.int 0))) (consA (frz (fn1 lstF (consA (op2 ixF (op2 ixF (nm 6) (nm 7)) (ret (.int 1))) nilA))) (consA (op2 ixF (op2 ixF (nm 6) (nm 7)) (ret (.int 2))) nilA)))))
  (seqS (ifS (tst (op2 (isBF true) (fn1 (cvF dB') (consA (frz (fn1 lstF (consA (nm 4) nilA))) (consA (op2 addF (nm 7) (ret (.int 1))) (consA (frz (fn1 lstF (consA (nm 3) nilA))) (consA (nm 8) nilA))))) (ret (.bl true))))
  (retS (ret (.bl false))) (ret .nx))
  (seqS (ifS (andT (tst (op2 gtI (nm 7) (ret (.int 0)))) (tst (op2 gtI (op2 ixF (op2 ixF (nm 6) (nm 7)) (ret (.int 0))) (op2 ixF (op2 ixF (nm 6) (op2 subI (nm 7) (ret (.int 1)))) (ret (.int 0))))))
  (retS (ret (.bl false))) (ret .nx))
  (ifS (tst (op2 ltI (fn1 (cvF aK') (consA (nm 4) (consA (cbV 1 bT' (consA (nm 5) (consA (op2 addF (nm 7) (ret (.int 1))) nilA))) (consA (nm 3) nilA)))) (op2 ixF (op2 ixF (nm 6) (nm 7)) (ret (.int 0)))))
  (retS (ret (.bl false))) (ret .nx))))))
  (seqS (setV 9 (frz (lstA (consA (tupA (consA (op2 ixF (op2 ixF (nm 5) (ret (.int 0))) (ret (.int 0))) (consA (op2 ixF (op2 ixF (nm 5) (un1 negI (ret (.int 1)))) (ret (.int 1))) nilA))) nilA))))
  (seqS (ifS (orT (tst (op2 (eqF true) (op2 ixF (op2 ixF (nm 6) (op2 subI (fn1 lenF (consA (nm 5) nilA)) (ret (.int 1)))) (ret (.int 0))) (ret (.int 0)))) (tst (op2 (eqF true) (op2 ixF (op2 ixF (nm 6) (ret (.int 0))) (ret (.int 0))) (fn1 (cvF aK') (consA (nm 4) (consA (nm 9) (consA (nm 3) nilA)))))))
  (retS (ret (.bl false))) (ret .nx))
  (seqS (setV 10 (op2 addF (ret (.int 1)) (cbV 1 ap' (consA (fn1 lenF (consA (nm 5) nilA)) nilA))))
  (seqS (ifS (tst (op2 (eqF true) (op2 ixF (fn1 (cvF bp') (consA (frz (fn1 lstF (consA (nm 4) nilA))) (consA (nm 10) (consA (frz (compO 1 (itS (nm 3)) (tgN 0) (ret true) (op2 mulI (ret (.int 2)) (nm 0)))) nilA)))) (ret (.int 0))) (op2 mulI (ret (.int 2)) (op2 ixF (op2 ixF (nm 6) (op2 subI (nm 10) (ret (.int 1)))) (ret (.int 0))))))
  (retS (ret (.bl false))) (ret .nx))
  (seqS (setV 11 (frz (op2 rvF (nm 4) (un1 negI (ret (.int 1))))))
  (seqS (ifS (tst (op2 ltI (fn1 lenF (consA (nm 4) nilA)) (ret (.int 10))))
  (setV 11 (frz (op2 catF (frz (op2 catF (frz (lstA (consA (tupA (consA (op2 ixF (op2 ixF (nm 4) (ret (.int 0))) (ret (.int 0))) (consA (op2 ixF (op2 ixF (nm 4) (ret (.int 0))) (ret (.int 0))) nilA))) nilA))) (nm 11))) (sl3 slF (nm 4) (ret none) (prt (ret (.int 2))))))) (ret .nx))
  (ifS (tst (op2 (eqF true) (op2 ixF (fn1 (cvF bp') (consA (nm 11) (consA (nm 10) (consA (frz (fn1 lstF (consA (nm 3) nilA))) nilA)))) (ret (.int 0))) (op2 ixF (op2 ixF (nm 6) (op2 subI (nm 10) (ret (.int 1)))) (ret (.int 0)))))
  (retS (ret (.bl false))) (ret .nx))))))))))))))
  (retS (ret (.bl true)))))
def dD':List R->Option (R×List R):=fnD 12 1 jY'
theorem nk {N:List Str} (h:decide N.Nodup=true:=by kernel_rfl):N.Nodup:=of_decide_eq_true h
theorem en (i:Nat){X:Cx}{B:BB}{x:Str}{pos:Pos} (hN:X.N[i]?=some x:=by rfl) (hv:visB X.env.scope x=true:=by rfl) (hd:(x == ("__debug__":Str))=false:=by decide) (aP:(x == ("__classdict__":Str))=false:=by decide):ED X B (.Name x pos) (nm i):=nw' (pv i hN hv hd aP)
noncomputable def top (i:Nat):Stmt:=PySem.Challenge.pw_roofpost_k65_whole_no_fewer_needless.main.body.getD i (.Pass ⟨0,0,0,0⟩)
abbrev b9':Stmt:=top 1
abbrev a8':Stmt:=top 2
abbrev bK':Stmt:=top 3
abbrev bg':Stmt:=top 4
abbrev ca':Stmt:=top 5
abbrev cb':Stmt:=top 6
abbrev bL':Stmt:=top 7
abbrev bh':Stmt:=top 9
abbrev bM':Stmt:=top 10
abbrev bv':Stmt:=top 11
abbrev aO':Stmt:=top 12
abbrev a9':Stmt:=top 13
abbrev bN':Stmt:=top 14
abbrev bi':Stmt:=top 17
abbrev ba':Stmt:=top 18
abbrev aS':Stmt:=top 19
abbrev cr':Stmt:=top 20
structure Cd (P:Program) (w:World) (K:PySem.W.Frag) (mg:Str->Option Value) (base:Heap) (k:Nat) (f:Addr) (fd:FuncData) (ps:List Str) (g:List R->Option (R×List R)) (x:Str):Prop where
 G:FnOk P w K mg base CX0 k f fd ps (spD K g)
 b:Binds K fd ps []
 p:keepIn K (.ref f)=true
 m:mg x=some (.ref f)
theorem lenOf1 {α:Type}{us:List α} (h:us.length=1):∃ a,us=[a]:=by
 obtain ⟨a,us,rfl⟩:=List.exists_cons_of_length_eq_add_one h
 exact ⟨a,by rw [length_eq_zero_iff.mp (Nat.succ.inj h)]⟩
theorem lenOf2 {α:Type}{us:List α} (h:us.length=2):∃ a b,us=[a,b]:=by
 obtain ⟨a,us,rfl⟩:=List.exists_cons_of_length_eq_add_one h
 obtain ⟨b,rfl⟩:=lenOf1 (Nat.succ.inj h)
 exact ⟨a,b,rfl⟩
theorem lenOf3 {α:Type}{us:List α} (h:us.length=3):∃ a b c,us=[a,b,c]:=by
 obtain ⟨a,us,rfl⟩:=List.exists_cons_of_length_eq_add_one h
 obtain ⟨b,c,rfl⟩:=lenOf2 (Nat.succ.inj h)
 exact ⟨a,b,c,rfl⟩
theorem lenOf4 {α:Type}{us:List α} (h:us.length=4):∃ a b c d,us=[a,b,c,d]:=by
 obtain ⟨a,us,rfl⟩:=List.exists_cons_of_length_eq_add_one h
 obtain ⟨b,c,d,rfl⟩:=lenOf3 (Nat.succ.inj h)
 exact ⟨a,b,c,d,rfl⟩
theorem lenOf5 {α:Type}{us:List α} (h:us.length=5):∃ a b c d e,us=[a,b,c,d,e]:=by
 obtain ⟨a,us,rfl⟩:=List.exists_cons_of_length_eq_add_one h
 obtain ⟨b,c,d,e,rfl⟩:=lenOf4 (Nat.succ.inj h)
 exact ⟨a,b,c,d,e,rfl⟩
section
variable {X:Cx}{B:BB}{e:Expr}{es:List Expr}{pos p:Pos}{k kr i:Nat}{f:Addr}{fd:FuncData}{ps:List Str}{x y:Str}{py:Pos}{g:List R->Option (R×List R)}{t:M (List D)} (G:Cd X.prog X.w X.K X.mg X.base k f fd ps g x) (hr:Room kr X.A)
include G hr
theorem cqE (ha:AD X B (e::es) t) (hk:k<=kr:=by decide) (hg:Gl X x:=by exact rfl) (aS:(x == ("__debug__":Str))=false:=by decide) (he:starEach (e::es) X.env=(false,eval e X.env)::starEach es X.env:=by rfl) (aA:(backTo pos (starEach es X.env)).any (·.1)=false:=by rfl):ED X B (.Call (.Name x p) (e::es) [] pos) (fn1 (cvF g) t):=nZ' G.G (hr.mono hk) hg G.m G.p G.b ha aS he aA
theorem cqO (ha:AD X B (e::es) t) (hk:k<=kr:=by decide) (hg:Gl X x:=by exact rfl) (aS:(x == ("__debug__":Str))=false:=by decide) (he:starEach (e::es) X.env=(false,eval e X.env)::starEach es X.env:=by rfl) (aA:(backTo pos (starEach es X.env)).any (·.1)=false:=by rfl):EO X B (.Call (.Name x p) (e::es) [] pos) (fn1 (coF g) t):=n0' G.G (hr.mono hk) hg G.m G.p G.b ha aS he aA
theorem cqK (ha:AD X B (e::es) t) (hk:k<=kr:=by decide) (hg:Gl X x:=by exact rfl) (aS:(x == ("__debug__":Str))=false:=by decide) (he:starEach (e::es) X.env=(false,eval e X.env)::starEach es X.env:=by rfl) (aA:(backTo pos (starEach es X.env)).any (·.1)=false:=by rfl):EK X B (.Call (.Name x p) (e::es) [] pos) (fn1 (ckF g) t):=on' G.G (hr.mono hk) hg G.m G.p G.b ha aS he aA
theorem cqEB (hv:PE X (.Name y py) (tVar i)) (ha:AD X B es t) (hk:k<=kr:=by decide) (hg:Gl X x:=by exact rfl) (aS:(x == ("__debug__":Str))=false:=by decide) (he:starEach (.Name y py::es) X.env=(false,eval (.Name y py) X.env)::starEach es X.env:=by rfl) (aA:(backTo pos (starEach es X.env)).any (·.1)=false:=by rfl):ED X B (.Call (.Name x p) (.Name y py::es) [] pos) (cbV i g t):=me' G.G (hr.mono hk) hg G.m G.p G.b hv ha aS he aA
theorem cqOB (hv:PE X (.Name y py) (tVar i)) (ha:AD X B es t) (hk:k<=kr:=by decide) (hg:Gl X x:=by exact rfl) (aS:(x == ("__debug__":Str))=false:=by decide) (he:starEach (.Name y py::es) X.env=(false,eval (.Name y py) X.env)::starEach es X.env:=by rfl) (aA:(backTo pos (starEach es X.env)).any (·.1)=false:=by rfl):EO X B (.Call (.Name x p) (.Name y py::es) [] pos) (cbO i g t):=mf' G.G (hr.mono hk) hg G.m G.p G.b hv ha aS he aA
end
section
variable {P:Program}{w:World}{K:PySem.W.Frag}{mg:Str->Option Value}{base:Heap}
theorem lz':FnScope ["stretches", "many", "counts", "numbers", "gaps", "out", "weights", "lows", "highs"] ["stretches", "many", "counts"] (defScope b9'):=⟨rfl,rfl,rfl,by decide +kernel,rfl,by decide +kernel,by decide +kernel⟩
theorem lA' {f c P':Addr}{fd:FuncData} (F:Fun K "few_of" "few_of" b9' f fd) (iU:nsIn K mainGlobals "few_of"=some (some (.ref f))) (fC:tabIn K "few_of"=some (c,P')) {cM' cl'} (eZ:Cd P w K mg base 2 cM' cl' ["stretches"] aJ' "numbers_of") {d4' dK'} (fR:Cd P w K mg base 2 d4' dK' ["numbers"] bb' "gaps_of") {c5' cN'} (fb:Cd P w K mg base 2 c5' cN' ["gap", "counts"] aC' "weight_of") (aL:mg "sorted"=none) (aV:mg "sum"=none) (aD:mg "list"=none) (cz:mg "zip"=none) (fc:mg "max"=none):FnOk P w K mg base CX0 7 f fd ["stretches", "many", "counts"] (spD K bp') :=
 p6' (k:=6) (N:=["stretches", "many", "counts", "numbers", "gaps", "out", "weights", "lows", "highs"]) F lz' iU fC eV' (λax aP A outer s H E B hr=>aM'
  (af' (as' (i:=3) nk (au' (cqO eZ hr (ab' (en 0) ad' rfl))))
  (af' (as' (i:=4) nk (au' (jX' (kb:=3) (hr.mono (by decide)) rfl aL (lu' (jc:=2) (g := "gap") (y := "counts") rfl rfl (λA s H f cv hr=>(cqE fb hr (ab' (en 0) (ab' (en 1) ad' rfl) rfl)))) fC aP rfl rfl rfl (au' (cqO fR hr (ab' (en 3) ad' rfl))))))
  (af' (as' (i:=5) nk (au' (kV' hr rfl aL (ab' (cq' (en 4) b5' (a7' (a6' (en 1) aa'))) ad' rfl))))
  (af' (an' (c1' (i:=6) (N':=["gap", "-stretches", "-many", "counts", "-numbers", "-gaps", "-out", "-weights", "-lows", "-highs"]) (m:=1) (CompScope.of (by kernel_rfl)) rfl nk (a5' (cq' (en 4) (a7' (a6' (en 1) aa')) b5')) (λ_ _ _ _=>(gd_n (i:=0) (m:=1) nk)) (λ_ _ _ _=>bF') (λ_ _ _ _=>(cqE fb hr (ab' (en 0) (ab' (en 3) ad' rfl) rfl)))))
  (af' (as' (i:=7) nk (au' (fo' (cq' (en 3) b5' (a7' aa')) (au' (bG' (N':=["gap", "-stretches", "-many", "-counts", "-numbers", "-gaps", "-out", "-weights", "-lows", "-highs"]) (m:=1) (CompScope.of (by kernel_rfl)) rfl (a5' (en 5)) (λ_ _ _ _=>(gd_n (i:=0) (m:=1) nk)) (λ_ _ _ _=>bF') (λ_ _ _ _=>(aw' (aj' (en 0) aa') aa')))))))
  (af' (as' (i:=8) nk (au' (fo' (au' (bG' (N':=["gap", "-stretches", "-many", "-counts", "-numbers", "-gaps", "-out", "-weights", "-lows", "-highs"]) (m:=1) (CompScope.of (by kernel_rfl)) rfl (a5' (en 5)) (λ_ _ _ _=>(gd_n (i:=0) (m:=1) nk)) (λ_ _ _ _=>bF') (λ_ _ _ _=>(a6' (aj' (en 0) aa') aa')))) (cq' (en 3) (a7' (bn' aa')) b5'))))
  (ak' (an' (aF' (bz' (ab' (dV' rfl rfl aV (ab' (en 6) ad' rfl)) (ab' (au' (jV' rfl rfl aD rfl cz (ab' (en 7) (ab' (en 8) ad' rfl) rfl))) (ab' (oB' rfl rfl fc (en 6) aa') ad' rfl) rfl) rfl))))))))))))
theorem gP':FnScope ["stretches", "numbers", "stretch"] ["stretches"] (defScope a8'):=⟨rfl,rfl,rfl,by decide +kernel,rfl,by decide +kernel,by decide +kernel⟩
theorem gQ' {f:Addr}{fd:FuncData} (F:Fun K "numbers_of" "numbers_of" a8' f fd) (aD:mg "list"=none) (aw:mg "range"=none) (aL:mg "sorted"=none) (fe:mg "set"=none):FnOk P w K mg base CX0 2 f fd ["stretches"] (spD K aJ') :=
 a4' (k:=1) (N:=["stretches", "numbers", "stretch"]) F gP' cJ' (λax A outer s H E B hr=>aM'
  (af' (an' (cv' (i:=1) nk (aX' ad')))
  (af' (bB' never rfl (a5' (en 0)) (gd_n (i:=2) (m:=100) nk)
  (ak' (an' (pJ' (pv 1) (au' (gN' rfl rfl aD rfl aw (ab' (aj' (en 2) aa') (ab' (aw' (aj' (en 2) aa') aa') ad' rfl) rfl)))))))
  (ak' (an' (ef' (ix' hr rfl aL rfl fe (ab' (en 1) ad' rfl))))))))
theorem jZ':FnScope ["numbers"] ["numbers"] (defScope bK'):=⟨rfl,rfl,rfl,by decide +kernel,rfl,by decide +kernel,by decide +kernel⟩
theorem j0' {f:Addr}{fd:FuncData} (F:Fun K "gaps_of" "gaps_of" bK' f fd) (cz:mg "zip"=none):FnOk P w K mg base CX0 2 f fd ["numbers"] (spD K bb') :=
 a4' (k:=1) (N:=["numbers"]) F jZ' dX' (λax A outer s H E B hr=>aM'
  (ak' (an' (ef' (bG' (N':=["one", "other", "-numbers"]) (m:=2) (CompScope.of (by kernel_rfl)) rfl (n8' rfl cz (ab' (en 0) (ab' (cq' (en 0) (a7' aa') b5') ad' rfl) rfl)) (λ_ _ _ _=>(hf' (m:=2) rfl (bZ' (gd_n (i:=0) (m:=2) nk) (bZ' (gd_n (i:=1) (m:=2) nk) fO')))) (λ_ _ _ _=>(fR' (ej' (aw' (en 0) aa') (en 1)))) (λ_ _ _ _=>(bz' (ab' (aw' (en 0) aa') (ab' (a6' (en 1) aa') ad' rfl) rfl))))))))
theorem hX':FnScope ["gap", "counts"] ["gap", "counts"] (defScope bg'):=⟨rfl,rfl,rfl,by decide +kernel,rfl,by decide +kernel,by decide +kernel⟩
theorem hY' {f:Addr}{fd:FuncData} (F:Fun K "weight_of" "weight_of" bg' f fd) (aV:mg "sum"=none):FnOk P w K mg base CX0 2 f fd ["gap", "counts"] (spD K aC') :=
 a4' (k:=1) (N:=["gap", "counts"]) F hX' c2' (λax A outer s H E B hr=>aM'
  (ak' (an' (aF' (dV' rfl rfl aV (ab' (cq' (en 1) (a7' (aj' (en 0) aa')) (a7' (aw' (aj' (en 0) aa') aa'))) ad' rfl))))))
theorem lB':FnScope ["stretches", "many", "counts", "thing", "some", "asked", "had", "needless"] ["stretches", "many", "counts", "thing"] (defScope ca'):=⟨rfl,rfl,rfl,by decide +kernel,rfl,by decide +kernel,by decide +kernel⟩
theorem lC' {f:Addr}{fd:FuncData} (F:Fun K "is_few" "is_few" ca' f fd) {nb' lT'} (kO:Cd P w K mg base 2 nb' lT' ["some", "bound"] dA' "is_row") {cM' cl'} (eZ:Cd P w K mg base 2 cM' cl' ["stretches"] aJ' "numbers_of") {lU' kd'} (kP:Cd P w K mg base 3 lU' kd' ["gaps", "many", "counts", "needless", "mark"] cj' "is_mark") {d4' dK'} (fR:Cd P w K mg base 2 d4' dK' ["numbers"] bb' "gaps_of") (aH:mg "len"=none) (fg:mg "any"=none) (aV:mg "sum"=none):FnOk P w K mg base CX0 4 f fd ["stretches", "many", "counts", "thing"] (spD K dB') :=
 a4' (k:=3) (N:=["stretches", "many", "counts", "thing", "some", "asked", "had", "needless"]) F lB' eX' (λax A outer s H E B hr=>aM'
  (af' (as' (i:=4) nk (aj' (en 3) aa'))
  (af' (a0' (TW.td (ny' (jD' (bm' rfl aH (ab' (en 4) ad' rfl)) (en 1)) (kw' (kx' (kv' (cqE kO hr (ab' (en 4) (ab' (bm' rfl aH (ab' (en 2) ad' rfl)) ad' rfl) rfl)))))))
  (ak' (an' (aF' bj'))) aZ')
  (af' (as' (i:=5) nk (au' (cqO eZ hr (ab' (en 0) ad' rfl))))
  (af' (as' (i:=6) nk (au' (cqO eZ hr (ab' (en 4) ad' rfl))))
  (af' (a0' (kv' (pR' rfl rfl fg (ab' (au' (bG' (N':=["number", "-stretches", "-many", "-counts", "-thing", "-some", "-asked", "had", "-needless"]) (m:=1) (CompScope.of (by kernel_rfl)) rfl (a5' (en 5)) (λ_ _ _ _=>(gd_n (i:=0) (m:=1) nk)) (λ_ _ _ _=>bF') (λ_ _ _ _=>(pN' hr (en 0) (en 7))))) ad' rfl)))
  (ak' (an' (aF' bj'))) aZ')
  (af' (as' (i:=7) nk (dV' rfl rfl aV (ab' (au' (bG' (N':=["number", "-stretches", "-many", "counts", "-thing", "-some", "asked", "-had", "-needless"]) (m:=1) (CompScope.of (by kernel_rfl)) rfl (a5' (en 6)) (λ_ _ _ _=>(gd_n (i:=0) (m:=1) nk)) (λ_ _ _ _=>(fR' (pO' hr (en 0) (en 6)))) (λ_ _ _ _=>(aj' (en 3) (en 0))))) ad' rfl)))
  (ak' (an' (aF' (kz' (nA' hr (aj' (en 3) aa') (en 7)) (ky' (cqE kP hr (fy' (au' (cqO fR hr (ab' (en 5) ad' rfl))) (en 1) (en 2) (en 7) (ab' (aj' (en 3) aa') ad' rfl) rfl rfl rfl rfl))))))))))))))
theorem lD':FnScope ["some", "bound", "ahead", "stretch"] ["some", "bound"] (defScope cb'):=⟨rfl,rfl,rfl,by decide +kernel,rfl,by decide +kernel,by decide +kernel⟩
theorem lE' {f:Addr}{fd:FuncData} (F:Fun K "is_row" "is_row" cb' f fd) :FnOk P w K mg base CX0 2 f fd ["some", "bound"] (spD K dA') :=
 a4' (k:=1) (N:=["some", "bound", "ahead", "stretch"]) F lD' eW' (λax A outer s H E B hr=>aM'
  (af' (as' (i:=2) nk (bn' aa'))
  (af' (bB' never rfl (a5' (en 0)) (gd_n (i:=3) (m:=100) nk)
  (af' (a0' (kx' (mR' (en 2) (aj' (en 3) aa') (aj' (en 3) aa') (en 1)))
  (ak' (an' (aF' bj'))) aZ')
  (ak' (as' (i:=2) nk (aj' (en 3) aa')))))
  (ak' (an' (aF' bj'))))))
theorem j1':FnScope ["gaps", "many", "counts", "needless", "mark", "lesser"] ["gaps", "many", "counts", "needless", "mark"] (defScope bL'):=⟨rfl,rfl,rfl,by decide +kernel,rfl,by decide +kernel,by decide +kernel⟩
theorem j2' {f:Addr}{fd:FuncData} (F:Fun K "is_mark" "is_mark" bL' f fd) {c5' cN'} (fb:Cd P w K mg base 2 c5' cN' ["gap", "counts"] aC' "weight_of") (bW:mg "min"=none) (aV:mg "sum"=none):FnOk P w K mg base CX0 3 f fd ["gaps", "many", "counts", "needless", "mark"] (spD K cj') :=
 a4' (k:=2) (N:=["gaps", "many", "counts", "needless", "mark", "lesser"]) F j1' dY' (λax A outer s H E B hr=>aM'
  (af' (an' (c1' (i:=5) (N':=["gap", "-gaps", "-many", "counts", "-needless", "mark", "-lesser"]) (m:=1) (CompScope.of (by kernel_rfl)) rfl nk (a5' (en 0)) (λ_ _ _ _=>(gd_n (i:=0) (m:=1) nk)) (λ_ _ _ _=>bF') (λ_ _ _ _=>(hw' rfl rfl bW (ab' (cqE fb hr (ab' (en 0) (ab' (en 3) ad' rfl) rfl)) (ab' (en 5) ad' rfl) rfl)))))
  (ak' (an' (aF' (kz' (qC' (en 4) aa') (ky' (nA' hr (en 3) (a6' (dV' rfl rfl aV (ab' (en 5) ad' rfl)) (aT' (a6' (en 1) aa') (en 4)))))))))))
theorem hZ':FnScope ["cell", "at", "one", "two", "three"] ["cell", "at"] (defScope bh'):=⟨rfl,rfl,rfl,by decide +kernel,rfl,by decide +kernel,by decide +kernel⟩
theorem h0' {f:Addr}{fd:FuncData} (F:Fun K "_law_blend" "_law_blend" bh' f fd) :FnOk P w K mg base CX0 2 f fd ["cell", "at"] (spD K bC') :=
 a4' (k:=1) (N:=["cell", "at", "one", "two", "three"]) F hZ' c3' (λax A outer s H E B hr=>aM'
  (af' (a0' (qD' (en 0) (hu' aa' aa'))
  (ak' (an' (aF' (en 0)))) aZ')
  (af' (as' (i:=2) nk (bA' (aw' (aw' (aT' (bA' (en 0) aa') aa') (aT' (en 1) aa')) aa') aa'))
  (af' (as' (i:=3) nk (bA' (aw' (aw' (aT' (en 2) (en 2)) (aT' (en 1) aa')) (bA' (en 0) aa')) aa'))
  (af' (as' (i:=4) nk (bA' (aw' (aw' (aT' (en 3) (en 3)) (aT' (en 2) aa')) aa') aa'))
  (ak' (an' (aF' (aw' (aT' (aw' (aT' (en 2) aa') (en 3)) aa') (en 4))))))))))
theorem j3':FnScope ["script", "cells", "k", "cell"] ["script"] (defScope bM'):=⟨rfl,rfl,rfl,by decide +kernel,rfl,by decide +kernel,by decide +kernel⟩
theorem j4' {f:Addr}{fd:FuncData} (F:Fun K "_law_pot" "_law_pot" bM' f fd) (aD:mg "list"=none) (bE:mg "enumerate"=none):FnOk P w K mg base CX0 2 f fd ["script"] (spD K ck') :=
 a4' (k:=1) (N:=["script", "cells", "k", "cell"]) F j3' dZ' (λax A outer s H E B hr=>aM'
  (af' (an' (cv' (i:=1) nk (bH' rfl aD (ab' (cq' (en 0) b5' (a7' aa')) ad' rfl))))
  (af' (bB' never rfl (mt' rfl bE (ab' (cq' (en 0) (a7' aa') (a7' aa')) ad' rfl)) (hf' (m:=100) rfl (bZ' (gd_n (i:=2) (m:=100) nk) (bZ' (gd_n (i:=3) (m:=100) nk) fO')))
  (ak' (an' (eg' (pv 1) (bA' (en 2) aa') (aw' (aY' (pv 1) (bA' (en 2) aa')) (en 3))))))
  (ak' (an' (ef' (aX' (ab' (en 1) (ab' aa' (ab' aa' ad' rfl) rfl) rfl))))))))
theorem iz':FnScope ["pot", "upto", "at", "cell", "found"] ["pot", "upto"] (defScope bv'):=⟨rfl,rfl,rfl,by decide +kernel,rfl,by decide +kernel,by decide +kernel⟩
theorem iA' {f:Addr}{fd:FuncData} (F:Fun K "_law_pick" "_law_pick" bv' f fd) {iC' ie'} (kQ:Cd P w K mg base 2 iC' ie' ["cell", "at"] bC' "_law_blend") (aH:mg "len"=none):FnOk P w K mg base CX0 3 f fd ["pot", "upto"] (spD K ap') :=
 a4' (k:=2) (N:=["pot", "upto", "at", "cell", "found"]) F iz' dC' (λax A outer s H E B hr=>aM'
  (af' (a0' (ej' (aY' (pv 0) aa') (en 1))
  (af' (as' (i:=2) nk (aY' (pv 0) aa'))
  (af' (as' (i:=3) nk (aT' aa' (en 2)))
  (af' (a0' (ej' (en 2) (bm' rfl aH (ab' (aY' (pv 0) aa') ad' rfl)))
  (ak' (as' (i:=3) nk (aj' (aY' (pv 0) aa') (en 2)))) (ak' (a0' (fn' hr (aY' (pv 0) aa') (au' (aX' ad')))
  (ak' (as' (i:=3) nk (bA' (aj' (aY' (pv 0) aa') (bA' (aw' (aT' (en 2) aa') aa') (bm' rfl aH (ab' (aY' (pv 0) aa') ad' rfl)))) (aw' (hu' aa' aa') (aT' aa' (en 2)))))) aZ')))
  (af' (an' (eg' (pv 0) aa' (aw' (en 2) aa')))
  (ak' (an' (eg' (pv 0) aa' (cqE kQ hr (ab' (en 3) (ab' (en 2) ad' rfl) rfl))))))))) aZ')
  (af' (as' (i:=4) nk (bA' (aY' (pv 0) aa') (en 1)))
  (af' (an' (eg' (pv 0) aa' (pM' (aY' (pv 0) aa') (en 1))))
  (ak' (an' (aF' (en 4))))))))
theorem eY':FnScope ["pot", "size", "found", "k", "low", "high"] ["pot", "size"] (defScope aO'):=⟨rfl,rfl,rfl,by decide +kernel,rfl,by decide +kernel,by decide +kernel⟩
theorem eZ' {f:Addr}{fd:FuncData} (F:Fun K "_law_stretches" "_law_stretches" aO' f fd) {be' a2'} (bw:Cd P w K mg base 3 be' a2' ["pot", "upto"] ap' "_law_pick") (aw:mg "range"=none) (bW:mg "min"=none):FnOk P w K mg base CX0 4 f fd ["pot", "size"] (spD K bk') :=
 a4' (k:=3) (N:=["pot", "size", "found", "k", "low", "high"]) F eY' bR' (λax A outer s H E B hr=>aM'
  (af' (an' (cv' (i:=2) nk (aX' ad')))
  (af' (bB' never rfl (dq' rfl aw (ab' (aw' aa' (cqEB bw hr (pv 0) (ab' aa' ad' rfl))) ad' rfl)) (gd_n (i:=3) (m:=100) nk)
  (af' (as' (i:=4) nk (cqEB bw hr (pv 0) (ab' (en 1) ad' rfl)))
  (af' (a0' (TW.td (fi' (kG' hr (pv 2) (au' (aX' ad'))) (ee' (jF' hr (cqEB bw hr (pv 0) (ab' aa' ad' rfl)) aa'))))
  (ak' (as' (i:=4) nk (hw' rfl rfl bW (ab' (a6' (en 1) aa') (ab' (aw' (aw' (aj' (aY' (pv 2) (bn' aa')) aa') aa') (cqEB bw hr (pv 0) (ab' aa' ad' rfl))) ad' rfl) rfl)))) aZ')
  (af' (as' (i:=5) nk (hw' rfl rfl bW (ab' (a6' (en 1) aa') (ab' (aw' (en 4) (aj' (au' (aX' (fy' aa' aa' aa' aa' (ab' (cqEB bw hr (pv 0) (ab' (en 1) ad' rfl)) ad' rfl) rfl rfl rfl rfl))) (cqEB bw hr (pv 0) (ab' aa' ad' rfl)))) ad' rfl) rfl)))
  (ak' (an' (hl' (pv 2) (bz' (ab' (en 4) (ab' (en 5) ad' rfl) rfl)))))))))
  (ak' (an' (aF' (en 2)))))))
theorem gR':FnScope ["pot", "size", "top"] ["pot"] (defScope a9'):=⟨rfl,rfl,rfl,by decide +kernel,rfl,by decide +kernel,by decide +kernel⟩
theorem gS' {f:Addr}{fd:FuncData} (F:Fun K "_law_counts" "_law_counts" a9' f fd) {be' a2'} (bw:Cd P w K mg base 3 be' a2' ["pot", "upto"] ap' "_law_pick") (aw:mg "range"=none):FnOk P w K mg base CX0 4 f fd ["pot"] (spD K bS') :=
 a4' (k:=3) (N:=["pot", "size", "top"]) F gR' cK' (λax A outer s H E B hr=>aM'
  (af' (as' (i:=1) nk (aj' (au' (aX' (fy' (aw' aa' (cqEB bw hr (pv 0) (ab' aa' ad' rfl))) aa' (aw' aa' (cqEB bw hr (pv 0) (ab' aa' ad' rfl))) aa' ad' rfl rfl rfl rfl))) (cqEB bw hr (pv 0) (ab' aa' ad' rfl))))
  (af' (as' (i:=2) nk (aj' (by with_reducible exact (au' (aX' (KX.ad (.int (.int (.int (.pow .nil)))))))) (cqEB bw hr (pv 0) (ab' aa' ad' rfl))))
  (ak' (an' (ef' (bG' (N':=["k", "pot", "-size", "top"]) (m:=1) (CompScope.of (by kernel_rfl)) rfl (dq' rfl aw (ab' (en 1) ad' rfl)) (λ_ _ _ _=>(gd_n (i:=0) (m:=1) nk)) (λ_ _ _ _=>bF') (λ_ _ _ _=>(aT' (cqEB bw hr (pv 1) (ab' aa' ad' rfl)) (cqEB bw hr (pv 1) (ab' (en 3) ad' rfl)))))))))))
theorem j5':FnScope ["stretches", "found", "low", "high", "number"] ["stretches"] (defScope bN'):=⟨rfl,rfl,rfl,by decide +kernel,rfl,by decide +kernel,by decide +kernel⟩
theorem j6' {f:Addr}{fd:FuncData} (F:Fun K "_law_had" "_law_had" bN' f fd) (aw:mg "range"=none):FnOk P w K mg base CX0 2 f fd ["stretches"] (spD K bc') :=
 a4' (k:=1) (N:=["stretches", "found", "low", "high", "number"]) F j5' d0' (λax A outer s H E B hr=>aM'
  (af' (an' (i4' (i:=1) nk mK'))
  (af' (bB' never rfl (a5' (en 0)) (hf' (m:=100) rfl (bZ' (gd_n (i:=2) (m:=100) nk) (bZ' (gd_n (i:=3) (m:=100) nk) fO')))
  (ak' (bB' never rfl (eI' rfl aw (ab' (en 2) (ab' (aw' (en 3) aa') ad' rfl) rfl)) (gd_n (i:=4) (m:=100) nk)
  (ak' (an' (oN' hr (pv 1) (en 4) bj'))))))
  (ak' (an' (oj' (pv 1)))))))
theorem h1':FnScope ["stretches", "found", "number"] ["stretches"] (defScope bi'):=⟨rfl,rfl,rfl,by decide +kernel,rfl,by decide +kernel,by decide +kernel⟩
theorem h3' {f:Addr}{fd:FuncData} (F:Fun K "_law_parts" "_law_parts" bi' f fd) {d6' dL'} (fh:Cd P w K mg base 2 d6' dL' ["stretches"] bc' "_law_had") (aL:mg "sorted"=none):FnOk P w K mg base CX0 3 f fd ["stretches"] (spD K cd') :=
 a4' (k:=2) (N:=["stretches", "found", "number"]) F h1' c4' (λax A outer s H E B hr=>aM'
  (af' (an' (cv' (i:=1) nk (aX' ad')))
  (af' (bB' never rfl (a5' (au' (lp' rfl rfl aL (cqK fh hr (ab' (en 0) ad' rfl))))) (gd_n (i:=2) (m:=100) nk)
  (ak' (a0' (TW.td (fi' (kG' hr (pv 1) (au' (aX' ad'))) (ee' (jF' hr (aj' (aY' (pv 1) (bn' aa')) aa') (a6' (en 2) aa')))))
  (ak' (an' (eg' (pv 1) (bn' aa') (bz' (ab' (aj' (aY' (pv 1) (bn' aa')) aa') (ab' (en 2) ad' rfl) rfl))))) (ak' (an' (hl' (pv 1) (bz' (ab' (en 2) (ab' (en 2) ad' rfl) rfl))))))))
  (ak' (an' (aF' (en 1)))))))
theorem gT':FnScope ["pot", "parts", "let", "found", "k"] ["pot", "parts", "let"] (defScope ba'):=⟨rfl,rfl,rfl,by decide +kernel,rfl,by decide +kernel,by decide +kernel⟩
theorem gU' {f:Addr}{fd:FuncData} (F:Fun K "_law_joined" "_law_joined" ba' f fd) {be' a2'} (bw:Cd P w K mg base 3 be' a2' ["pot", "upto"] ap' "_law_pick") (aH:mg "len"=none) (aw:mg "range"=none):FnOk P w K mg base CX0 4 f fd ["pot", "parts", "let"] (spD K bT') :=
 a4' (k:=3) (N:=["pot", "parts", "let", "found", "k"]) F gT' cL' (λax A outer s H E B hr=>aM'
  (af' (an' (cv' (i:=3) nk (aX' (ab' (aj' (en 1) aa') ad' rfl))))
  (af' (bB' never rfl (eI' rfl aw (ab' aa' (ab' (bm' rfl aH (ab' (en 1) ad' rfl)) ad' rfl) rfl)) (gd_n (i:=4) (m:=100) nk)
  (ak' (a0' (TW.td (fi' (ej' (n7' rfl aH (pv 3)) (en 2)) (ee' (jF' hr (cqEB bw hr (pv 0) (ab' aa' ad' rfl)) aa'))))
  (ak' (an' (hl' (pv 3) (aj' (en 1) (en 4))))) (ak' (an' (eg' (pv 3) (bn' aa') (bz' (ab' (aj' (aY' (pv 3) (bn' aa')) aa') (ab' (aj' (aj' (en 1) (en 4)) aa') ad' rfl) rfl))))))))
  (ak' (an' (aF' (en 3)))))))
theorem fE':FnScope ["stretches", "some", "counts", "had"] ["stretches", "some", "counts"] (defScope aS'):=⟨rfl,rfl,rfl,by decide +kernel,rfl,by decide +kernel,by decide +kernel⟩
theorem fF' {f:Addr}{fd:FuncData} (F:Fun K "_law_needless" "_law_needless" aS' f fd) {d6' dL'} (fh:Cd P w K mg base 2 d6' dL' ["stretches"] bc' "_law_had") (aV:mg "sum"=none):FnOk P w K mg base CX0 3 f fd ["stretches", "some", "counts"] (spD K aK') :=
 a4' (k:=2) (N:=["stretches", "some", "counts", "had"]) F fE' b8' (λax A outer s H E B hr=>aM'
  (af' (an' (i4' (i:=3) nk (cqK fh hr (ab' (en 0) ad' rfl))))
  (ak' (an' (aF' (dV' rfl rfl aV (ab' (au' (bG' (N':=["number", "-stretches", "-some", "counts", "had"]) (m:=1) (CompScope.of (by kernel_rfl)) rfl (p5' (cqK fh hr (ab' (en 1) ad' rfl))) (λ_ _ _ _=>(gd_n (i:=0) (m:=1) nk)) (λ_ _ _ _=>(fR' (ol' (ns' hr) (en 0) (pv 4)))) (λ_ _ _ _=>(aj' (en 3) (en 0))))) ad' rfl)))))))
theorem qb':FnScope ["script", "pot", "turn", "counts", "some", "parts", "told", "k", "thing", "hull", "let", "more"] ["script"] (defScope cr'):=⟨rfl,rfl,rfl,by decide +kernel,rfl,by decide +kernel,by decide +kernel⟩
theorem qc' {f:Addr}{fd:FuncData} (F:Fun K "law" "law" cr' f fd) {lV' ke'} (kR:Cd P w K mg base 2 lV' ke' ["script"] ck' "_law_pot") {if' gV'} (kT:Cd P w K mg base 4 if' gV' ["pot"] bS' "_law_counts") {fJ' fb'} (kU:Cd P w K mg base 4 fJ' fb' ["pot", "size"] bk' "_law_stretches") {iD' ig'} (kW:Cd P w K mg base 3 iD' ig' ["stretches"] cd' "_law_parts") {nc' lW'} (hV:Cd P w K mg base 7 nc' lW' ["stretches", "many", "counts"] bp' "few_of") {nd' lX'} (kX:Cd P w K mg base 4 nd' lX' ["stretches", "many", "counts", "thing"] dB' "is_few") {f8' fK'} (iV:Cd P w K mg base 3 f8' fK' ["stretches", "some", "counts"] aK' "_law_needless") {ih' gW'} (kY:Cd P w K mg base 4 ih' gW' ["pot", "parts", "let"] bT' "_law_joined") {be' a2'} (bw:Cd P w K mg base 3 be' a2' ["pot", "upto"] ap' "_law_pick") (aw:mg "range"=none) (aH:mg "len"=none) (aD:mg "list"=none):FnOk P w K mg base CX0 8 f fd ["script"] (spD K dD') :=
 a4' (k:=7) (N:=["script", "pot", "turn", "counts", "some", "parts", "told", "k", "thing", "hull", "let", "more"]) F qb' jY' (λax A outer s H E B hr=>aM'
  (af' (an' (cv' (i:=1) nk (cqO kR hr (ab' (en 0) ad' rfl))))
  (af' (bB' never rfl (dq' rfl aw (ab' aa' ad' rfl)) (gd_n (i:=2) (m:=100) nk)
  (af' (as' (i:=3) nk (au' (cqOB kT hr (pv 1) ad')))
  (af' (as' (i:=4) nk (cqEB kU hr (pv 1) (ab' (bm' rfl aH (ab' (en 3) ad' rfl)) ad' rfl)))
  (af' (as' (i:=5) nk (cqE kW hr (ab' (en 4) ad' rfl)))
  (af' (an' (c1' (i:=6) (N':=["let", "-script", "-pot", "-turn", "counts", "some", "-parts", "-told", "-k", "-thing", "-hull", "-let", "-more"]) (m:=1) (CompScope.of (by kernel_rfl)) rfl nk (eI' rfl aw (ab' aa' (ab' (aw' (bm' rfl aH (ab' (en 5) ad' rfl)) aa') ad' rfl) rfl)) (λ_ _ _ _=>(gd_n (i:=0) (m:=1) nk)) (λ_ _ _ _=>bF') (λ_ _ _ _=>(cqE hV hr (ab' (au' (bH' rfl aD (ab' (en 5) ad' rfl))) (ab' (en 0) (ab' (au' (bH' rfl aD (ab' (en 4) ad' rfl))) ad' rfl) rfl) rfl)))))
  (af' (bB' never rfl (dq' rfl aw (ab' (bm' rfl aH (ab' (en 6) ad' rfl)) ad' rfl)) (gd_n (i:=7) (m:=100) nk)
  (af' (as' (i:=8) nk (bz' (ab' (aj' (aj' (en 6) (en 7)) aa') (ab' (au' (bH' rfl aD (ab' (aj' (aj' (en 6) (en 7)) aa') ad' rfl))) (ab' (aj' (aj' (en 6) (en 7)) aa') ad' rfl) rfl) rfl)))
  (af' (a0' (mq' (cqE kX hr (fy' (au' (bH' rfl aD (ab' (en 4) ad' rfl))) (aw' (en 7) aa') (au' (bH' rfl aD (ab' (en 3) ad' rfl))) (en 8) ad' rfl rfl rfl rfl)) bj')
  (ak' (an' (aF' bj'))) aZ')
  (af' (a0' (TW.td (fi' (jD' (en 7) aa') (ee' (jD' (aj' (aj' (en 6) (en 7)) aa') (aj' (aj' (en 6) (a6' (en 7) aa')) aa')))))
  (ak' (an' (aF' bj'))) aZ')
  (ak' (a0' (ej' (cqE iV hr (ab' (en 4) (ab' (cqEB kY hr (pv 1) (ab' (en 5) (ab' (aw' (en 7) aa') ad' rfl) rfl)) (ab' (en 3) ad' rfl) rfl) rfl)) (aj' (aj' (en 6) (en 7)) aa'))
  (ak' (an' (aF' bj'))) aZ'))))))
  (af' (as' (i:=9) nk (au' (aX' (ab' (bz' (ab' (aj' (aj' (en 5) aa') aa') (ab' (aj' (aj' (en 5) (bn' aa')) aa') ad' rfl) rfl)) ad' rfl))))
  (af' (a0' (TW.td (ny' (fn' hr (aj' (aj' (en 6) (a6' (bm' rfl aH (ab' (en 5) ad' rfl)) aa')) aa') aa') (kw' (fn' hr (aj' (aj' (en 6) aa') aa') (cqE iV hr (ab' (en 4) (ab' (en 9) (ab' (en 3) ad' rfl) rfl) rfl))))))
  (ak' (an' (aF' bj'))) aZ')
  (af' (as' (i:=10) nk (aw' aa' (cqEB bw hr (pv 1) (ab' (bm' rfl aH (ab' (en 5) ad' rfl)) ad' rfl))))
  (af' (a0' (fn' hr (aj' (cqE hV hr (ab' (au' (bH' rfl aD (ab' (en 4) ad' rfl))) (ab' (en 10) (ab' (au' (bG' (N':=["count", "-script", "-pot", "-turn", "-counts", "-some", "-parts", "-told", "-k", "-thing", "-hull", "-let", "-more"]) (m:=1) (CompScope.of (by kernel_rfl)) rfl (a5' (en 3)) (λ_ _ _ _=>(gd_n (i:=0) (m:=1) nk)) (λ_ _ _ _=>bF') (λ_ _ _ _=>(aT' aa' (en 0))))) ad' rfl) rfl) rfl)) aa') (aT' aa' (aj' (aj' (en 6) (a6' (en 10) aa')) aa')))
  (ak' (an' (aF' bj'))) aZ')
  (af' (as' (i:=11) nk (au' (pX' (en 4) (bn' aa'))))
  (af' (a0' (ej' (bm' rfl aH (ab' (en 4) ad' rfl)) aa')
  (ak' (as' (i:=11) nk (au' (fo' (au' (fo' (au' (aX' (ab' (bz' (ab' (aj' (aj' (en 4) aa') aa') (ab' (aj' (aj' (en 4) aa') aa') ad' rfl) rfl)) ad' rfl))) (en 11))) (cq' (en 4) b5' (a7' aa')))))) aZ')
  (ak' (a0' (fn' hr (aj' (cqE hV hr (ab' (en 11) (ab' (en 10) (ab' (au' (bH' rfl aD (ab' (en 3) ad' rfl))) ad' rfl) rfl) rfl)) aa') (aj' (aj' (en 6) (a6' (en 10) aa')) aa'))
  (ak' (an' (aF' bj'))) aZ'))))))))))))))
  (ak' (an' (aF' bj'))))))
end
theorem all_mk {l:PySem.W.OpenLaw}{w:World}{K:PySem.W.Frag}{h:Heap}{mg:Str->Option Value}{fa:Addr} (X:K.In h) (G:h.Ns mainGlobals mg) (sd:mg "law"=some (.ref fa))
  {f0:Addr}{se sf:Option Addr}{sh:Array (Option Value)}{sj sn so su oF sv:Value} (a0:nsIn K mainGlobals "few_of"=some (some (.ref f0))) (l0:K.lookup f0=some ⟨sj,se,.func (fnOf "few_of" "few_of" (defArgs b9') (defBody b9') (defScope b9') .none sn so su sf oF sv),sh⟩) (c0:codeIn K oF "few_of"=true) (k0:keepIn K (.ref f0)=true)
  {f1:Addr}{sw sx:Option Addr}{sy:Array (Option Value)}{sA sB sC sD oG sE:Value} (a1:nsIn K mainGlobals "numbers_of"=some (some (.ref f1))) (l1:K.lookup f1=some ⟨sA,sw,.func (fnOf "numbers_of" "numbers_of" (defArgs a8') (defBody a8') (defScope a8') .none sB sC sD sx oG sE),sy⟩) (c1:codeIn K oG "numbers_of"=true) (k1:keepIn K (.ref f1)=true)
  {f2:Addr}{sF sH:Option Addr}{fH:Array (Option Value)}{sJ sK sL sM oH sN:Value} (a2:nsIn K mainGlobals "gaps_of"=some (some (.ref f2))) (l2:K.lookup f2=some ⟨sJ,sF,.func (fnOf "gaps_of" "gaps_of" (defArgs bK') (defBody bK') (defScope bK') .none sK sL sM sH oH sN),fH⟩) (c2:codeIn K oH "gaps_of"=true) (k2:keepIn K (.ref f2)=true)
  {f3:Addr}{sO sP:Option Addr}{sl3:Array (Option Value)}{sQ sR sS sU oI sV:Value} (a3:nsIn K mainGlobals "weight_of"=some (some (.ref f3))) (l3:K.lookup f3=some ⟨sQ,sO,.func (fnOf "weight_of" "weight_of" (defArgs bg') (defBody bg') (defScope bg') .none sR sS sU sP oI sV),sl3⟩) (c3:codeIn K oI "weight_of"=true) (k3:keepIn K (.ref f3)=true)
  {f4:Addr}{sW sZ:Option Addr}{tm:Array (Option Value)}{tq tu tw tz oJ tE:Value} (a4:nsIn K mainGlobals "is_few"=some (some (.ref f4))) (l4:K.lookup f4=some ⟨tq,sW,.func (fnOf "is_few" "is_few" (defArgs ca') (defBody ca') (defScope ca') .none tu tw tz sZ oJ tE),tm⟩) (c4:codeIn K oJ "is_few"=true) (k4:keepIn K (.ref f4)=true)
  {f5:Addr}{tF tG:Option Addr}{tH:Array (Option Value)}{tJ tL tM tN oK tP:Value} (a5:nsIn K mainGlobals "is_row"=some (some (.ref f5))) (l5:K.lookup f5=some ⟨tJ,tF,.func (fnOf "is_row" "is_row" (defArgs cb') (defBody cb') (defScope cb') .none tL tM tN tG oK tP),tH⟩) (c5:codeIn K oK "is_row"=true) (k5:keepIn K (.ref f5)=true)
  {f6:Addr}{tQ tR:Option Addr}{tU:Array (Option Value)}{tV tW tZ t4 oM t5:Value} (a6:nsIn K mainGlobals "is_mark"=some (some (.ref f6))) (l6:K.lookup f6=some ⟨tV,tQ,.func (fnOf "is_mark" "is_mark" (defArgs bL') (defBody bL') (defScope bL') .none tW tZ t4 tR oM t5),tU⟩) (c6:codeIn K oM "is_mark"=true) (k6:keepIn K (.ref f6)=true)
  {f7:Addr}{t6 t7:Option Addr}{t8:Array (Option Value)}{t9 ua ub ud oN ue:Value} (a7:nsIn K mainGlobals "_law_blend"=some (some (.ref f7))) (l7:K.lookup f7=some ⟨t9,t6,.func (fnOf "_law_blend" "_law_blend" (defArgs bh') (defBody bh') (defScope bh') .none ua ub ud t7 oN ue),t8⟩) (c7:codeIn K oN "_law_blend"=true) (k7:keepIn K (.ref f7)=true)
  {f8:Addr}{uf ug:Option Addr}{uh:Array (Option Value)}{uk ul um uo oO uq:Value} (a8:nsIn K mainGlobals "_law_pot"=some (some (.ref f8))) (l8:K.lookup f8=some ⟨uk,uf,.func (fnOf "_law_pot" "_law_pot" (defArgs bM') (defBody bM') (defScope bM') .none ul um uo ug oO uq),uh⟩) (c8:codeIn K oO "_law_pot"=true) (k8:keepIn K (.ref f8)=true)
  {f9:Addr}{ur ut:Option Addr}{uu:Array (Option Value)}{uv uw ux uy oP uz:Value} (a9:nsIn K mainGlobals "_law_pick"=some (some (.ref f9))) (l9:K.lookup f9=some ⟨uv,ur,.func (fnOf "_law_pick" "_law_pick" (defArgs bv') (defBody bv') (defScope bv') .none uw ux uy ut oP uz),uu⟩) (c9:codeIn K oP "_law_pick"=true) (k9:keepIn K (.ref f9)=true)
  {kZ:Addr}{oQ oR:Option Addr}{oU:Array (Option Value)}{oV oW oX oY jt oZ:Value} (lc:nsIn K mainGlobals "_law_stretches"=some (some (.ref kZ))) (lf:K.lookup kZ=some ⟨oV,oQ,.func (fnOf "_law_stretches" "_law_stretches" (defArgs aO') (defBody aO') (defScope aO') .none oW oX oY oR jt oZ),oU⟩) (lh:codeIn K jt "_law_stretches"=true) (lm:keepIn K (.ref kZ)=true)
  {lq:Addr}{o0 o3:Option Addr}{o4:Array (Option Value)}{o5 o6 o7 o8 ju o9:Value} (ls:nsIn K mainGlobals "_law_counts"=some (some (.ref lq))) (lu:K.lookup lq=some ⟨o5,o0,.func (fnOf "_law_counts" "_law_counts" (defArgs a9') (defBody a9') (defScope a9') .none o6 o7 o8 o3 ju o9),o4⟩) (lA:codeIn K ju "_law_counts"=true) (lB:keepIn K (.ref lq)=true)
  {lC:Addr}{pc pd:Option Addr}{pf:Array (Option Value)}{ph pi pj pp jv pt:Value} (lD:nsIn K mainGlobals "_law_had"=some (some (.ref lC))) (lE:K.lookup lC=some ⟨ph,pc,.func (fnOf "_law_had" "_law_had" (defArgs bN') (defBody bN') (defScope bN') .none pi pj pp pd jv pt),pf⟩) (lF:codeIn K jv "_law_had"=true) (lG:keepIn K (.ref lC)=true)
  {lH:Addr}{px pz:Option Addr}{pA:Array (Option Value)}{pB pC pD pE jw pF:Value} (lI:nsIn K mainGlobals "_law_parts"=some (some (.ref lH))) (lJ:K.lookup lH=some ⟨pB,px,.func (fnOf "_law_parts" "_law_parts" (defArgs bi') (defBody bi') (defScope bi') .none pC pD pE pz jw pF),pA⟩) (lK:codeIn K jw "_law_parts"=true) (lL:keepIn K (.ref lH)=true)
  {lM:Addr}{pG pH:Option Addr}{pI:Array (Option Value)}{pJ pK pL pM jy pN:Value} (lN:nsIn K mainGlobals "_law_joined"=some (some (.ref lM))) (lO:K.lookup lM=some ⟨pJ,pG,.func (fnOf "_law_joined" "_law_joined" (defArgs ba') (defBody ba') (defScope ba') .none pK pL pM pH jy pN),pI⟩) (lP:codeIn K jy "_law_joined"=true) (lQ:keepIn K (.ref lM)=true)
  {lR:Addr}{pO pP:Option Addr}{pQ:Array (Option Value)}{pR pS pU pV jz pW:Value} (lS:nsIn K mainGlobals "_law_needless"=some (some (.ref lR))) (lU:K.lookup lR=some ⟨pR,pO,.func (fnOf "_law_needless" "_law_needless" (defArgs aS') (defBody aS') (defScope aS') .none pS pU pV pP jz pW),pQ⟩) (lV:codeIn K jz "_law_needless"=true) (lW:keepIn K (.ref lR)=true)
  {lX:Addr}{pX jA:Option Addr}{pY:Array (Option Value)}{pZ jB jC jD hW jE:Value} (iW:nsIn K mainGlobals "law"=some (some (.ref lX))) (lY:K.lookup lX=some ⟨pZ,pX,.func (fnOf "law" "law" (defArgs cr') (defBody cr') (defScope cr') .none jB jC jD jA hW jE),pY⟩) (lZ:codeIn K hW "law"=true) (ma:keepIn K (.ref lX)=true)
  (fi:nsIn K mainGlobals "any"=some none)
  (bF:nsIn K mainGlobals "enumerate"=some none)
  (fj:nsIn K mainGlobals "len"=some none)
  (dP:nsIn K mainGlobals "list"=some none)
  (fm:nsIn K mainGlobals "max"=some none)
  (fq:nsIn K mainGlobals "min"=some none)
  (dg:nsIn K mainGlobals "range"=some none)
  (ft:nsIn K mainGlobals "set"=some none)
  (cA:nsIn K mainGlobals "sorted"=some none)
  (fu:nsIn K mainGlobals "sum"=some none)
  (fv:nsIn K mainGlobals "zip"=some none)
  (T0:(tabIn K "few_of").isSome=true) :
  ∃ fd:FuncData,(∀ (s:Shared) (v:Value),BindsTo s fd ⟨[v],[]⟩ [("script", v)])/\∀ base:Heap,K.In base->base.Ns mainGlobals mg->FnOk l.prog w K mg base CX0 8 fa fd ["script"] (spD K dD'):=by
 have e:=sd.symm.trans (mg_of X G iW)
 cases e
 obtain ⟨⟨cT,PT⟩,T0⟩:=Option.isSome_iff_exists.mp T0
 have fg:=mg_none_of X G fi
 have bE:=mg_none_of X G bF
 have aH:=mg_none_of X G fj
 have aD:=mg_none_of X G dP
 have fc:=mg_none_of X G fm
 have bW:=mg_none_of X G fq
 have aw:=mg_none_of X G dg
 have fe:=mg_none_of X G ft
 have aL:=mg_none_of X G cA
 have aV:=mg_none_of X G fu
 have cz:=mg_none_of X G fv
 have md:=aL' (st:=b9') l0 c0 k0
 have uA:=mg_of X G a0
 have uB:=md.binds (ps:=["stretches", "many", "counts"]) λ_ _ _ _ _ _ us hl=>by obtain ⟨_,_,_,rfl⟩:=lenOf3 hl;rfl
 have iZ:=aL' (st:=a8') l1 c1 k1
 have qa:=mg_of X G a1
 have qb:=iZ.binds (ps:=["stretches"]) λ_ _ _ _ _ _ us hl=>by obtain ⟨_,rfl⟩:=lenOf1 hl;rfl
 have i5:=aL' (st:=bK') l2 c2 k2
 have qc:=mg_of X G a2
 have qe:=i5.binds (ps:=["numbers"]) λ_ _ _ _ _ _ us hl=>by obtain ⟨_,rfl⟩:=lenOf1 hl;rfl
 have i6:=aL' (st:=bg') l3 c3 k3
 have qf:=mg_of X G a3
 have qg:=i6.binds (ps:=["gap", "counts"]) λ_ _ _ _ _ _ us hl=>by obtain ⟨_,_,rfl⟩:=lenOf2 hl;rfl
 have me:=aL' (st:=ca') l4 c4 k4
 have uC:=mg_of X G a4
 have uD:=me.binds (ps:=["stretches", "many", "counts", "thing"]) λ_ _ _ _ _ _ us hl=>by obtain ⟨_,_,_,_,rfl⟩:=lenOf4 hl;rfl
 have mf:=aL' (st:=cb') l5 c5 k5
 have uE:=mg_of X G a5
 have uF:=mf.binds (ps:=["some", "bound"]) λ_ _ _ _ _ _ us hl=>by obtain ⟨_,_,rfl⟩:=lenOf2 hl;rfl
 have mh:=aL' (st:=bL') l6 c6 k6
 have uG:=mg_of X G a6
 have uH:=mh.binds (ps:=["gaps", "many", "counts", "needless", "mark"]) λ_ _ _ _ _ _ us hl=>by obtain ⟨_,_,_,_,_,rfl⟩:=lenOf5 hl;rfl
 have ml:=aL' (st:=bh') l7 c7 k7
 have uI:=mg_of X G a7
 have uJ:=ml.binds (ps:=["cell", "at"]) λ_ _ _ _ _ _ us hl=>by obtain ⟨_,_,rfl⟩:=lenOf2 hl;rfl
 have mq:=aL' (st:=bM') l8 c8 k8
 have uK:=mg_of X G a8
 have uL:=mq.binds (ps:=["script"]) λ_ _ _ _ _ _ us hl=>by obtain ⟨_,rfl⟩:=lenOf1 hl;rfl
 have fT:=aL' (st:=bv') l9 c9 k9
 have i7:=mg_of X G a9
 have i8:=fT.binds (ps:=["pot", "upto"]) λ_ _ _ _ _ _ us hl=>by obtain ⟨_,_,rfl⟩:=lenOf2 hl;rfl
 have mw:=aL' (st:=aO') lf lh lm
 have uM:=mg_of X G lc
 have uN:=mw.binds (ps:=["pot", "size"]) λ_ _ _ _ _ _ us hl=>by obtain ⟨_,_,rfl⟩:=lenOf2 hl;rfl
 have my:=aL' (st:=a9') lu lA lB
 have uO:=mg_of X G ls
 have uP:=my.binds (ps:=["pot"]) λ_ _ _ _ _ _ us hl=>by obtain ⟨_,rfl⟩:=lenOf1 hl;rfl
 have i9:=aL' (st:=bN') lE lF lG
 have qh:=mg_of X G lD
 have qi:=i9.binds (ps:=["stretches"]) λ_ _ _ _ _ _ us hl=>by obtain ⟨_,rfl⟩:=lenOf1 hl;rfl
 have mz:=aL' (st:=bi') lJ lK lL
 have uQ:=mg_of X G lI
 have uR:=mz.binds (ps:=["stretches"]) λ_ _ _ _ _ _ us hl=>by obtain ⟨_,rfl⟩:=lenOf1 hl;rfl
 have mB:=aL' (st:=ba') lO lP lQ
 have uS:=mg_of X G lN
 have uT:=mB.binds (ps:=["pot", "parts", "let"]) λ_ _ _ _ _ _ us hl=>by obtain ⟨_,_,_,rfl⟩:=lenOf3 hl;rfl
 have mC:=aL' (st:=aS') lU lV lW
 have uU:=mg_of X G lS
 have uV:=mC.binds (ps:=["stretches", "some", "counts"]) λ_ _ _ _ _ _ us hl=>by obtain ⟨_,_,_,rfl⟩:=lenOf3 hl;rfl
 have uW:=aL' (st:=cr') lY lZ ma
 have vF:=mg_of X G iW
 refine ⟨fnOf "law" "law" (defArgs cr') (defBody cr') (defScope cr') .none jB jC jD jA hW jE,λs v=>.of_eq rfl,λbase _ _=>?_⟩
 have kR:=j4' (P:=l.prog) (w:=w) (mg:=mg) (base:=base) mq aD bE
 have kQ:=h0' (P:=l.prog) (w:=w) (mg:=mg) (base:=base) ml
 have bw:=iA' (P:=l.prog) (w:=w) (mg:=mg) (base:=base) fT ⟨kQ,uJ,ml.kp,uI⟩ aH
 have kT:=gS' (P:=l.prog) (w:=w) (mg:=mg) (base:=base) my ⟨bw,i8,fT.kp,i7⟩ aw
 have kU:=eZ' (P:=l.prog) (w:=w) (mg:=mg) (base:=base) mw ⟨bw,i8,fT.kp,i7⟩ aw bW
 have fh:=j6' (P:=l.prog) (w:=w) (mg:=mg) (base:=base) i9 aw
 have kW:=h3' (P:=l.prog) (w:=w) (mg:=mg) (base:=base) mz ⟨fh,qi,i9.kp,qh⟩ aL
 have eZ:=gQ' (P:=l.prog) (w:=w) (mg:=mg) (base:=base) iZ aD aw aL fe
 have fR:=j0' (P:=l.prog) (w:=w) (mg:=mg) (base:=base) i5 cz
 have fb:=hY' (P:=l.prog) (w:=w) (mg:=mg) (base:=base) i6 aV
 have hV:=lA' (P:=l.prog) (w:=w) (mg:=mg) (base:=base) md a0 T0 ⟨eZ,qb,iZ.kp,qa⟩ ⟨fR,qe,i5.kp,qc⟩ ⟨fb,qg,i6.kp,qf⟩ aL aV aD cz fc
 have kO:=lE' (P:=l.prog) (w:=w) (mg:=mg) (base:=base) mf
 have kP:=j2' (P:=l.prog) (w:=w) (mg:=mg) (base:=base) mh ⟨fb,qg,i6.kp,qf⟩ bW aV
 have kX:=lC' (P:=l.prog) (w:=w) (mg:=mg) (base:=base) me ⟨kO,uF,mf.kp,uE⟩ ⟨eZ,qb,iZ.kp,qa⟩ ⟨kP,uH,mh.kp,uG⟩ ⟨fR,qe,i5.kp,qc⟩ aH fg aV
 have iV:=fF' (P:=l.prog) (w:=w) (mg:=mg) (base:=base) mC ⟨fh,qi,i9.kp,qh⟩ aV
 have kY:=gU' (P:=l.prog) (w:=w) (mg:=mg) (base:=base) mB ⟨bw,i8,fT.kp,i7⟩ aH aw
 exact qc' (P:=l.prog) (w:=w) (mg:=mg) (base:=base) uW ⟨kR,uL,mq.kp,uK⟩ ⟨kT,uP,my.kp,uO⟩ ⟨kU,uN,mw.kp,uM⟩ ⟨kW,uR,mz.kp,uQ⟩ ⟨hV,uB,md.kp,uA⟩ ⟨kX,uD,me.kp,uC⟩ ⟨iV,uV,mC.kp,uU⟩ ⟨kY,uT,mB.kp,uS⟩ ⟨bw,i8,fT.kp,i7⟩ aw aH aD
theorem walk {l:PySem.W.OpenLaw}{q:Program}{cq:List Str}{XP:(Str->Option Value)->Heap->Prop}{YP:World->Heap->Prop}{d:DefRec}{K:Params->PySem.W.Frag} (qj:∀ ns:List Int,ns.length<=63->∃ rs,dD' [.val (.lst (ns.map D.int))]=some (.val (.bl true),rs)) (hn:l.most=some 63) (gw:d.params.defaults=[]) (bY:∃ d',(recsOf q).find? (λe=>e.name == ("few_of":Str))=some d') (gL:∀ p,noTabs (K p)=true)
  (hY:∀ (w:World) (h:Heap),YP w h->(K w.params).In h)
  (F:∀ (w:World) (mg:Str->Option Value) (fa:Addr) (h:Heap),(K w.params).In h->h.Ns mainGlobals mg->mg d.name=some (.ref fa) →
   ∃ fd:FuncData,(∀ (s:Shared) (u:Value),BindsTo s fd ⟨[u],[]⟩ [("script", u)])/\∀ base:Heap,(K w.params).In base->base.Ns mainGlobals mg->FnOk l.prog w (K w.params) mg base CX0 8 fa fd ["script"] (spD (K w.params) dD')) :
  PySem.W.WalkO q cq XP YP l.row.toRowW d [] (λf vs=>PySem.call f vs) :=
 mu' (n:=63) (k:=8) (x := "script") (CX:=λ_=>CX0) (sp:=λw=>spD (K w.params) dD') hn (by decide) gw ⟨rfl,by decide,by decide,rfl⟩ bY gL hY F (λ_ H a ns hl hS=>pS' hS (qj ns hl)) λ_ _ _ _ _ z=>z
end Own
namespace Own
open DL L2
def PotOk (c:List D):Prop:=∃ (ns:List Int) (at_ am:Int),c=[.lst (ns.map .int),.int at_,.int am]/\0<=at_
theorem mX' (a b:Int):∃ z,cvF bC' [.int a,.int b]=some (.int z):=by
 have:wpF bC' [.val (.int a),.val (.int b)] λr _=>∃ z,r=.val (.int z):=by
  refine cA' rfl λKE hE _=>?_
  rw [c3']
  refine ah' ?_;rintro K hK hR
  simp
  split
  ·exact hR _ _ (hE _ _ ⟨_,rfl,_,rfl⟩)
  ·refine hK _ ?_
   refine ah' ?_;rintro K hK -
   simp
   refine hK _ ?_
   have l1:=emod_nonneg (a % 998244353*40692+b*69621+1009) (show (2147483399:Int)≠0 by decide)
   have u1:=emod_lt_of_pos (a % 998244353*40692+b*69621+1009) (show (0:Int) < 2147483399 by decide)
   generalize (a % 998244353*40692+b*69621+1009) % 2147483399=x at *
   refine ah' ?_;rintro K hK -
   simp
   refine ⟨by omega,hK _ ?_⟩
   have l2:=emod_nonneg (x*x+b*48271+a % 131071) (show (2147483647:Int)≠0 by decide)
   have u2:=emod_lt_of_pos (x*x+b*48271+a % 131071) (show (0:Int) < 2147483647 by decide)
   generalize (x*x+b*48271+a % 131071) % 2147483647=y at *
   refine ah' ?_;rintro K hK -
   simp
   refine ⟨by omega,hK _ ?_⟩
   generalize (y*y+x*17+3) % 2147483629=z at *
   simp
   exact hE _ _ ⟨_,rfl,_,rfl⟩
 obtain ⟨r,aT,e,z,rfl⟩:=this
 exact ⟨z,by unfold cvF;simp only [map];rw [e]⟩
theorem aP' {c:List D}{u:Int}{Q:R->List D->Prop} (hc:PotOk c) (h1:1<=u) (h2:u < 2 ^ 200) (k:∀ n c',0<=n->n < u->PotOk c'->Q (.val (.int n)) c'):wpB ap' c [.int u] Q:=by
 obtain ⟨ns,at_,am,rfl,h0⟩:=hc
 refine er' rfl λKE hE _=>?_
 rw [dC']
 refine aE' (λae=>∃ fU jF x y z,0<=fU/\ae=[some (.bor [.lst (ns.map .int),.int fU,.int jF]),some (.val (.int u)),x,y,z]) (λK hK _=>?_) ?_
 ·simp [isMut,R.mut]
  split
  ·refine ah' λK1 dh _=>?_
   simp [isMut,R.mut]
   refine dh _ ?_
   refine ah' λK1 dh _=>?_
   simp [isMut,R.mut]
   refine dh _ ?_
   refine aE' (λae=>∃ m,ae=[some (.bor [.lst (ns.map .int),.int at_,.int am]),some (.val (.int u)),some (.val (.int at_)),some (.val (.int m)),none]) (λK1 dh _=>?_) ?_
   ·simp [isMut,R.mut]
    split
    ·rename_i h
     obtain ⟨a,e,m⟩:=lx' (ds:=ns.map D.int) h0 (by simpa using h)
     obtain ⟨b,_,rfl⟩:=mem_map.mp m
     rw [ai' e]
     simp
     exact dh _ ⟨_,rfl⟩
    ·rename_i h
     split
     ·exact dh _ ⟨_,rfl⟩
     ·rename_i h'
      have hl:0 < ns.length:=by cases ns with | nil=>simp at h' | cons=>simp
      refine ⟨by omega,?_⟩
      obtain ⟨a,e,m⟩:=lx' (ds:=ns.map D.int) (i:=(at_*7+1) % (ns.length:Int)) (emod_nonneg _ (by omega)) (by simpa using emod_lt_of_pos _ (by omega))
      obtain ⟨b,_,rfl⟩:=mem_map.mp m
      rw [ai' e]
      simp
      exact ⟨by omega,dh _ ⟨_,rfl⟩⟩
   ·rintro ae ⟨m,rfl⟩
    refine ah' λK1 dh _=>?_
    simp [isMut,R.mut]
    refine dh _ ?_
    obtain ⟨z,e⟩:=mX' m at_
    simp [isMut,R.mut,e]
    exact hK _ ⟨_,_,_,_,_,by omega,rfl⟩
  ·exact hK _ ⟨_,_,_,_,_,h0,rfl⟩
 ·rintro ae ⟨fU,jF,x,y,z,h3,rfl⟩
  refine ah' ?_;rintro K hK -
  simp [isMut,R.mut]
  refine ⟨by omega,hK _ ?_⟩
  refine ah' ?_;rintro K hK -
  simp [isMut,R.mut]
  refine ⟨⟨by omega,by simpa using h2⟩,hK _ ?_⟩
  simp
  exact hE _ _ _ ⟨_,rfl⟩ (k _ _ (emod_nonneg _ (by omega)) (emod_lt_of_pos _ (by omega)) ⟨_,_,_,rfl,h3⟩)
theorem du' {xs:List D}{m i:Nat}{d:D} (h:(numD m xs)[i]?=some d):∃ x,xs[i]?=some x/\d=.tup [.int ((m+i:Nat):Int),x]:=by
 induction xs generalizing m i with
 | nil=>simp [numD] at h
 | cons a xs ih =>
  cases i with
  | zero=>simp [numD] at h;exact ⟨a,rfl,h.symm⟩
  | succ i =>
   simp only [numD,getElem?_cons_succ] at h
   obtain ⟨x,e1,e2⟩:=ih h
   exact ⟨x,by simpa using e1,by rw [e2,show m+1+i=m+(i+1) from by omega]⟩
theorem jf' {α:Type}{f:α->D}{xs:List α}{lo hi:Option Int}:∃ ys:List α,cutD (xs.map f) lo hi=ys.map f/\(∀ y∈ys,y∈xs)/\ys.length=min (HT.sIx xs.length xs.length hi - HT.sIx xs.length 0 lo) (xs.length - HT.sIx xs.length 0 lo):=by
 refine ⟨(xs.drop (HT.sIx xs.length 0 lo)).take (HT.sIx xs.length xs.length hi - HT.sIx xs.length 0 lo),?_,?_,?_⟩
 ·unfold cutD
  simp [map_drop,map_take]
 ·intro y h
  exact mem_of_mem_drop (mem_of_mem_take h)
 ·simp
theorem qd' (ns:List Int):∃ d,coF ck' [.lst (ns.map .int)]=some d/\PotOk d:=by
 refine hV' ?_
 unfold ck'
 refine bu' rfl ?_
 rw [dZ']
 refine ah' λK hK _=>?_
 simp
 refine hK _ ?_
 obtain ⟨cs,e,-,hl⟩:=jf' (f:=D.int) (xs:=ns) (lo:=none) (hi:=some 12)
 rw [e]
 have dR:cs.length=min 12 ns.length:=by
  rw [hl];simp [HT.sIx]
 refine aE' (λae=>∃ cs,∃ x y z,ae=[x,some (.own (map D.int cs)),y,z]) (λK hK _=>?_) ?_
 ·simp
  obtain ⟨ms,e,-,hm⟩:=jf' (f:=D.int) (xs:=ns) (lo:=some 12) (hi:=some 63)
  rw [e]
  refine bf' (J:=λi Z=>∃ cs:List Int,∃ y z,cs.length=min 12 ns.length/\Z=[some (.val (.lst (ns.map .int))),some (.own (cs.map .int)),y,z]) ⟨cs,_,_,dR,rfl⟩ ?_ ?_
  ·rintro i d Z hd ⟨cs,y,z,hc,rfl⟩
   obtain ⟨x,e1,rfl⟩:=du' hd
   rw [getElem?_map,map_eq_some_iff] at e1
   obtain ⟨n,e1,rfl⟩:=e1
   have hi:i < ms.length:=(List.getElem?_eq_some_iff.mp e1).1
   have vG:12 < ns.length:=by
    simp [HT.sIx] at hm
    omega
   simp [isMut,R.mut]
   have jJ:cs.length=12:=by omega
   have uX:((i:Int) % 12)=((i % 12:Nat):Int):=by omega
   rw [uX]
   have bt:i % 12 < cs.length:=by omega
   rw [ai' (a:=D.int cs[i % 12]) (by rw [cX'];simp [bt])]
   simp
   refine ⟨(cs.set (i % 12) (cs[i % 12]+n)).map .int,?_,?_⟩
   ·unfold stF L2.ixN
    rw [if_pos (by omega),if_pos (by simp;omega),show ((i:Int) % 12).toNat=i % 12 from by omega]
    simp
   ·exact ⟨cs.set (i % 12) (cs[i % 12]+n),by simpa using hc,by simp⟩
  ·rintro Z ⟨cs,y,z,hc,rfl⟩
   exact hK _ ⟨cs,_,_,_,rfl⟩
 ·rintro ae ⟨cs,x,y,z,rfl⟩
  simp [flR,fin]
  exact ⟨cs,0,0,rfl,by omega⟩
theorem lF' {α:Type} (d:α){kz:List Int}{xs:List α} (hl:kz.length=xs.length):(srtK d kz xs).Perm xs:=by
 have p:=perm_iff_toList_perm.mp (bD' {} kz.reverse).1
 unfold srtK
 refine (List.reverse_perm _).trans ((p.map _).trans ?_)
 have e:(range xs.reverse.length).map (λi=>xs.reverse.getD i d)=xs.reverse:=by
  refine ext_getElem (by simp) λi h1 h2=>?_
  simp at h1
  simp [h1]
 rw [length_reverse,hl,← length_reverse]
 show List.Perm ((range xs.reverse.length).map _) xs
 rw [e]
 exact List.reverse_perm xs
theorem j7' {α:Type} (d:α) (f:α->Int) (xs:List α):((srtK d (xs.map f) xs).map f).Pairwise λa b=>b<=a:=by
 obtain ⟨pm,up⟩:=bD' {} (xs.map f).reverse
 have p:=perm_iff_toList_perm.mp pm
 unfold srtK
 rw [map_reverse,List.pairwise_reverse,map_map,pairwise_map]
 refine pairwise_iff_getElem.mpr λi j hi hj lt=>?_
 have hn:(permK (xs.map f).reverse).size=xs.length:=by rw [pm.size];simp
 have lj:j < (xs.map f).reverse.length:=by rw [length_toList,hn] at hj;simpa using hj
 have li:i < (xs.map f).reverse.length:=by omega
 have u:=up i j lt lj
 have aJ:∀ k (hk:k < (permK (xs.map f).reverse).toList.length),gt (permK (xs.map f).reverse) k=(permK (xs.map f).reverse).toList[k]/\(permK (xs.map f).reverse).toList[k] < xs.length:=λk hk=>by
  have m:=(p.mem_iff).mp (getElem_mem hk)
  refine ⟨?_,by simpa using m⟩
  unfold gt
  rw [getD_eq_getD_getElem?,← getElem?_toList,getElem?_eq_getElem hk]
  rfl
 obtain ⟨a1,a2⟩:=aJ i hi
 obtain ⟨b1,b2⟩:=aJ j hj
 rw [a1,b1] at u
 unfold ltR at u
 have key:∀ k,k < xs.length->(xs.map f).reverse.getD k 0=f (xs.reverse.getD k d):=λk hk=>by
  rw [← map_reverse,getD_eq_getElem?_getD,getD_eq_getElem?_getD,getElem?_map,getElem?_eq_getElem (by simpa using hk)]
  rfl
 rw [key _ a2,key _ b2] at u
 simp only [decide_eq_false_iff_not,Int.not_lt] at u
 exact u
abbrev Falls (l:List Int):Prop:=l.Pairwise λa b=>b<=a
theorem h4':∀ {l m:List Int},l.Perm m->Falls l->Falls m->l=m
 | [],m,p,_,_=>p.nil_eq
 | a::l,[],p,_,_=>absurd p.length_eq (by simp)
 | a::l,b::m,p,h,h'=>by
  obtain ⟨h1,h2⟩:=pairwise_cons.mp h
  obtain ⟨g1,g2⟩:=pairwise_cons.mp h'
  have e:a=b:=by
   have x1:a∈b::m:=p.mem_iff.mp mem_cons_self
   have x2:b∈a::l:=p.mem_iff.mpr mem_cons_self
   rcases mem_cons.mp x1 with z | z
   ·exact z
   ·rcases mem_cons.mp x2 with y | y
    ·exact y.symm
    ·have:=g1 a z
     have:=h1 b y
     omega
  subst e
  rw [h4' (p.cons_inv) h2 g2]
theorem lG':∀ {l:List Int},(∀ x∈l,0<=x)->0<=l.sum
 | [],_=>by simp
 | a::l,h=>by
  have:=lG' λx hx=>h x (mem_cons_of_mem a hx)
  have:=h a mem_cons_self
  rw [sum_cons]
  omega
theorem jg' {l:List Int} (h:∀ x∈l,0<=x):∀ m,(l.drop m).sum<=l.sum:=by
 induction l with
 | nil=>intro m;simp
 | cons a l ih =>
  intro m
  cases m with
  | zero=>simp
  | succ m =>
   have:=ih (λx hx=>h x (mem_cons_of_mem a hx)) m
   have:=h a mem_cons_self
   rw [drop_succ_cons,sum_cons]
   omega
theorem j8' {l:List Int} (h:∀ x∈l,0<=x) (m:Nat):(l.drop (m+1)).sum<=(l.drop m).sum:=by
 have:=jg' (l:=l.drop m) (λx hx=>h x (mem_of_mem_drop hx)) 1
 rwa [drop_drop] at this
theorem bq' {l m:List Int} (p:l.Perm m):l.sum=m.sum:=by
 induction p with
 | nil=>rfl
 | cons x _ ih=>rw [sum_cons,sum_cons,ih]
 | swap x y l=>simp only [sum_cons];omega
 | trans _ _ h1 h2=>rw [h1,h2]
theorem dE':∀ (m:Nat) (l t u:List Int),Falls l->(∀ x∈l,0<=x)->(t++u).Perm l->t.length<=m->(l.drop m).sum<=u.sum
 | 0,l,t,u,_,_,p,h=>by
  rw [length_eq_zero_iff.mp (Nat.le_zero.mp h),nil_append] at p
  rw [drop_zero,bq' p]
  exact Int.le_refl _
 | m+1,[],t,u,_,_,p,h=>by
  have:=p.length_eq
  simp at this
  rw [this.2]
  simp
 | m+1,a::l,t,u,f,nn,p,h=>by
  obtain ⟨f1,f2⟩:=pairwise_cons.mp f
  have mD:∀ x∈l,0<=x:=λx hx=>nn x (mem_cons_of_mem a hx)
  rw [drop_succ_cons]
  by_cases ha:a∈t
  ·obtain ⟨t1,t2,rfl⟩:=append_of_mem ha
   have q:(a::((t1++t2)++u)).Perm (a::l):=by
    refine List.Perm.trans ?_ p
    have:(t1++a::t2).Perm (a::(t1++t2)):=perm_middle
    exact (this.symm.append_right u)
   exact dE' m l (t1++t2) u f2 mD q.cons_inv (by simp at h ⊢;omega)
  ·have hu:a∈u:=by
    rcases mem_append.mp (p.mem_iff.mpr mem_cons_self) with z | z
    ·exact absurd z ha
    ·exact z
   obtain ⟨u1,u2,rfl⟩:=append_of_mem hu
   have qk:(u1++a::u2).sum=a+(u1++u2).sum:=by rw [bq' (perm_middle (l₁:=u1) (l₂:=u2) (a:=a)),sum_cons]
   have q0:(t++(u1++u2)).Perm l:=by
    have:(a::(t++(u1++u2))).Perm (a::l):=by
     refine List.Perm.trans ?_ p
     refine List.Perm.trans (perm_middle (l₁:=t) (l₂:=u1++u2) (a:=a)).symm ?_
     exact (perm_middle (l₁:=u1) (l₂:=u2) (a:=a)).symm.append_left t
    exact this.cons_inv
   rw [qk]
   cases t with
   | nil =>
    have:=jg' mD m
    rw [nil_append] at q0
    have:=bq' q0
    have:=nn a mem_cons_self
    omega
   | cons b t =>
    have q:(t++(b::(u1++u2))).Perm l:=List.Perm.trans perm_middle q0
    have:=dE' m l t (b::(u1++u2)) f2 mD q (by simpa using h)
    rw [sum_cons] at this
    have hb:b∈l:=q0.mem_iff.mp (by simp)
    have:=f1 b hb
    omega
noncomputable def mn (a b:Int):Int:=if b < a then b else a
theorem gD':∀ (xs:List Int) (x:Int),(∀ y∈xs,y<=x)->xs.foldl mx x=x
 | [],x,_=>rfl
 | y::xs,x,h=>by
  have:mx x y=x:=by
   unfold mx
   rw [if_neg (by have:=h y mem_cons_self;omega)]
  rw [foldl_cons,this]
  exact gD' xs x λz hz=>h z (mem_cons_of_mem y hz)
theorem mY' {x:Int}{xs:List Int} (f:Falls (x::xs)):maxI 0 (x::xs)=x:=gD' xs x (pairwise_cons.mp f).1
theorem jh':∀ {l:List Int}{m:Int},(∀ x∈l,x<=m)->(l.map (mn · m)).sum=l.sum
 | [],m,_=>rfl
 | a::l,m,h=>by
  rw [map_cons,sum_cons,sum_cons,jh' λx hx=>h x (mem_cons_of_mem a hx)]
  have:mn a m=a:=by
   unfold mn
   rw [if_neg (by have:=h a mem_cons_self;omega)]
  rw [this]
theorem e0':∀ {l:List Int}{m:Int},(∀ x∈l,m<=x)->(l.map (mn · m)).sum=l.length*m
 | [],m,_=>by simp
 | a::l,m,h=>by
  rw [map_cons,sum_cons,e0' λx hx=>h x (mem_cons_of_mem a hx)]
  have:mn a m=m:=by
   unfold mn
   have:=h a mem_cons_self
   split<;>omega
  rw [this,length_cons,Int.natCast_succ,Int.add_mul,Int.one_mul]
  omega
theorem oQ' {l:List Int} (f:Falls l) (nn:∀ x∈l,0<=x) (k:Nat):0<=maxI 0 (l.drop k)/\(l.map (mn · (maxI 0 (l.drop k)))).sum - k*maxI 0 (l.drop k)=(l.drop k).sum:=by
 cases e:l.drop k with
 | nil =>
  have z:(l.map (mn · 0)).sum=l.length*0:=e0' nn
  show 0<=(0:Int)/\(l.map (mn · 0)).sum - k*0=0
  rw [z]
  simp
 | cons x xs =>
  have fd:Falls (x::xs):=by
   have:=f.sublist (List.drop_sublist k l)
   rw [e] at this
   exact this
  rw [mY' fd]
  have lk:k<=l.length:=by
   rcases lt_or_ge l.length k with h | h
   ·rw [drop_of_length_le (le_of_lt h)] at e;cases e
   ·exact h
  have cut:=take_append_drop k l
  have x0:x∈l:=mem_of_mem_drop (by rw [e];exact mem_cons_self)
  refine ⟨nn x x0,?_⟩
  have all:=f
  rw [← cut] at all
  obtain ⟨_,_,hX⟩:=pairwise_append.mp all
  have s1:((l.take k).map (mn · x)).sum=(l.take k).length*x:=e0' λy hy=>hX y hy x (by rw [e];exact mem_cons_self)
  have s2:((l.drop k).map (mn · x)).sum=(l.drop k).sum:=jh' λy hy=>by
   rw [e] at hy
   rcases mem_cons.mp hy with z | z
   ·omega
   ·exact (pairwise_cons.mp fd).1 y z
  have s3:(l.map (mn · x)).sum=k*x+(x::xs).sum:=by
   have h1:=congrArg (λz=>(z.map (mn · x)).sum) cut
   rw [map_append,sum_append,s1,s2,e,length_take,min_eq_left lk] at h1
   exact h1.symm
  rw [s3]
  omega
noncomputable def span (p:Int×Int):List Int:=(range (p.2+1 - p.1).toNat).map λ(k:Nat)=>p.1+(k:Int)
def nums (ss:List (Int×Int)):List Int:=setI (ss.flatMap span)
def SOk (p:Int×Int):Prop:=0<=p.1/\p.1<=1000/\-1<=p.2/\p.2<=1000
theorem e2' (p:Int×Int):rngD p.1 (p.2+1 - p.1).toNat=(span p).map D.int:=by
 unfold rngD span
 rw [map_map]
 rfl
theorem e4' {p:Int×Int} (h:SOk p):(span p).length<=1001:=by
 obtain ⟨h1,h2,h3,h4⟩:=h
 unfold span
 simp
 omega
theorem e5':∀ {ss:List (Int×Int)},(∀ p∈ss,SOk p)->(ss.flatMap span).length<=1001*ss.length
 | [],_=>by simp
 | p::ss,h=>by
  have h1:=e4' (h p mem_cons_self)
  have h2:=e5' λq hq=>h q (mem_cons_of_mem p hq)
  rw [flatMap_cons,length_append,length_cons]
  omega
theorem oR' {ns:List Int} (h:(setI ns).length<=299):setIF [.lst (ns.map D.int)]=some ((setI ns).map .int):=by
 unfold setIF
 simp only [cW']
 exact if_pos h
theorem dF' {ss:List (Int×Int)} (hb:∀ p∈ss,SOk p) (hl:ss.length<=100) (few:(nums ss).length<=299):coF aJ' [.lst (ss.map prD)]=some ((nums ss).map .int):=by
 have:∃ d,coF aJ' [.lst (ss.map prD)]=some d/\d=(nums ss).map .int:=by
  refine hV' ?_
  unfold aJ'
  refine bu' rfl ?_
  rw [cJ']
  refine ah' λK hK _=>?_
  simp
  refine hK _ ?_
  refine aE' (λae=>∃ x y,ae=[x,some (.own ((ss.flatMap span).map .int)),y]) (λK hK _=>?_) ?_
  ·simp
   refine bf' (J:=λi Z=>∃ x,Z=[some (.val (.lst (ss.map prD))),some (.own (((ss.take i).flatMap span).map .int)),x]) ⟨none,by simp⟩ ?_ ?_
   ·rintro i d Z hd ⟨x,rfl⟩
    rw [getElem?_map,map_eq_some_iff] at hd
    obtain ⟨p,e1,rfl⟩:=hd
    have hp:=hb p (mem_of_getElem? e1)
    have ok:=hp
    obtain ⟨h1,h2,h3,h4⟩:=hp
    have tk:ss.take (i+1)=ss.take i++[p]:=by rw [take_add_one,e1];rfl
    have fl:=e5' (ss:=ss.take i) λq hq=>hb q (mem_of_mem_take hq)
    have tl:(ss.take i).length<=100:=by rw [length_take];omega
    have sl:=e4' ok
    simp [isMut,R.mut,prD]
    refine ⟨⟨⟨by omega,by omega⟩,by omega,by omega⟩,?_,?_⟩
    ·rw [← map_take,← List.length_flatMap,e2',length_map]
     omega
    ·rw [tk,List.flatMap_append,map_append,e2']
     simp
   ·rintro Z ⟨x,rfl⟩
    refine hK _ ⟨some (.val (.lst (ss.map prD))),x,?_⟩
    rw [length_map,take_length]
  ·rintro ae ⟨x,y,rfl⟩
   simp [flR]
   rw [ai' (oR' few)]
   simp [fin,nums]
 obtain ⟨d,e,rfl⟩:=this
 exact e
noncomputable def gapsL (l:List Int):List (Int×Int):=((l.zip (l.drop 1)).filter λp=>decide (p.1+1 < p.2)).map λp=>(p.1+1,p.2 - 1)
theorem cut1 (l:List Int):cutD (l.map D.int) (some 1) none=(l.drop 1).map D.int:=by
 unfold cutD
 rw [length_map,map_drop]
 cases l with
 | nil=>simp [HT.sIx]
 | cons a l =>
  simp [HT.sIx]
  exact take_of_length_le (by simp)
theorem gE' (l m:List Int):pairsD (l.map D.int) (m.map D.int)=(l.zip m).map λp=>D.tup [.int p.1,.int p.2]:=by
 unfold pairsD
 rw [List.zip_map,map_map]
 rfl
theorem ji' {l:List Int} (hl:l.length<=1000):coF bb' [.lst (l.map D.int)]=some ((gapsL l).map prD):=by
 have:∃ d,coF bb' [.lst (l.map D.int)]=some d/\d=(gapsL l).map prD:=by
  refine hV' ?_
  unfold bb'
  refine bu' rfl ?_
  rw [dX']
  simp [flR]
  refine mT' (l.zip (l.drop 1)) (λp=>D.tup [.int p.1,.int p.2]) (λp=>decide (p.1+1 < p.2)) (λp=>.tup [.int (p.1+1),.int (p.2 - 1)]) ?_
  simp
  rw [cut1]
  refine ⟨?_,by omega,⟨_,rfl⟩,?_⟩
  ·rw [gE',List.drop_one]
  ·unfold gapsL
   rw [List.drop_one,map_map]
   rfl
 obtain ⟨d,e,rfl⟩:=this
 exact e
noncomputable def cutL (l:List Int) (lo hi:Option Int):List Int:=(l.drop (HT.sIx l.length 0 lo)).take (HT.sIx l.length l.length hi - HT.sIx l.length 0 lo)
theorem mZ' (l:List Int) (lo hi:Option Int):cutD (l.map D.int) lo hi=(cutL l lo hi).map D.int:=by
 unfold cutD cutL
 simp [map_drop,map_take]
def wt (cs:List Int) (p:Int×Int):Int:=(cutL cs (some p.1) (some (p.2+1))).sum
theorem d1' (cs:List Int) (p:Int×Int):cvF aC' [prD p,.lst (cs.map D.int)]=some (.int (wt cs p)):=by
 refine cI' ?_
 unfold aC'
 refine bu' rfl ?_
 rw [c2']
 simp [flR,prD,mZ']
 rw [ai' (dU' _)]
 simp [fin,wt]
theorem qM' {cs:List Int}{p:Int×Int} (h1:0<=p.1) (h2:p.1<=p.2+1) (h3:p.2 < cs.length):wt cs p=((cs.drop p.1.toNat).take (p.2+1 - p.1).toNat).sum:=by
 have e1:HT.sIx cs.length 0 (some p.1)=p.1.toNat:=by
  unfold HT.sIx
  simp only []
  rw [if_neg (by omega)]
  omega
 have e2:HT.sIx cs.length cs.length (some (p.2+1))=(p.2+1).toNat:=by
  unfold HT.sIx
  simp only []
  rw [if_neg (by omega)]
  omega
 unfold wt cutL
 rw [e1,e2,show (p.2+1).toNat - p.1.toNat=(p.2+1 - p.1).toNat by omega]
theorem jj' (cs:List Int):∀ gs:List (Int×Int),keysL (fn1 (cvF aC') (consA (nm 0) (consA (nm 1) nilA))) (.lst (cs.map D.int)) (gs.map prD)=some (gs.map (wt cs))
 | []=>rfl
 | p::gs=>by
  have e:(fn1 (cvF aC') (consA (nm 0) (consA (nm 1) nilA))) [some (.val (prD p)),some (.val (.lst (cs.map D.int)))]=some (.int (wt cs p),[some (.val (prD p)),some (.val (.lst (cs.map D.int)))]):=by
   have:wp (fn1 (cvF aC') (consA (nm 0) (consA (nm 1) nilA))) [some (.val (prD p)),some (.val (.lst (cs.map D.int)))] λd Z=>d=.int (wt cs p)/\Z=[some (.val (prD p)),some (.val (.lst (cs.map D.int)))]:=by
    simp
    rw [d1']
    simp
   obtain ⟨d,Z,e,rfl,rfl⟩:=this
   exact e
  rw [map_cons,keysL,e]
  dsimp only
  rw [jj' cs gs]
  rfl
theorem lH' {α β:Type} (f:α->β) (d:α) (d':β){kz:List Int}{xs:List α} (hl:kz.length=xs.length):srtK d' kz (xs.map f)=(srtK d kz xs).map f:=by
 have p:=perm_iff_toList_perm.mp (bD' {} kz.reverse).1
 unfold srtK
 rw [map_reverse,map_map]
 refine congrArg _ (map_congr_left λi hi=>?_)
 have m:=p.mem_iff.mp hi
 have bP:i < xs.reverse.length:=by simp at m;simp;omega
 rw [← map_reverse,getD_eq_getElem?_getD,getElem?_map,getElem?_eq_getElem bP]
 show f xs.reverse[i]=f (xs.reverse.getD i d)
 rw [getD_eq_getElem?_getD,getElem?_eq_getElem bP]
 rfl
noncomputable def rowB (n:Int):Int->List (Int×Int)->Bool
 | _,[]=>true
 | a,p::ss=>if a < p.1/\p.1<=p.2/\p.2 < n then rowB n p.2 ss else false
theorem qe' (n:Int) (ss:List (Int×Int)) (hl:ss.length<=1000):cvF dA' [.lst (ss.map prD),.int n]=some (.bl (rowB n (-1) ss)):=by
 refine cI' ?_
 refine cA' rfl λKE hE _=>?_
 rw [eW']
 refine ah' λK hK _=>?_
 simp [un1,negI]
 refine hK _ ?_
 refine ah' λK hK hR=>?_
 simp
 refine bf' (J:=λi Z=>∃ a x,rowB n (-1) ss=rowB n a (ss.drop i)/\Z=[some (.val (.lst (ss.map prD))),some (.val (.int n)),some (.val (.int a)),x]) ⟨-1,none,rfl,rfl⟩ ?_ ?_
 ·rintro i d Z hd ⟨a,x,e,rfl⟩
  rw [getElem?_map,map_eq_some_iff] at hd
  obtain ⟨p,e1,rfl⟩:=hd
  obtain ⟨hi,e2⟩:=List.getElem?_eq_some_iff.mp e1
  rw [drop_eq_getElem_cons hi,e2,rowB] at e
  refine ⟨(),_,rfl,?_⟩
  show wp _ [some (.val (.lst (ss.map prD))),some (.val (.int n)),some (.val (.int a)),some (.val (prD p))] _
  refine ah' λK1 dh mE=>?_
  by_cases h1:a < p.1
  ·by_cases h2:p.1<=p.2
   ·by_cases h3:p.2 < n
    ·rw [if_pos ⟨h1,h2,h3⟩] at e
     simp [prD,chn3,h1,h2,h3]
     refine dh _ ?_
     simp
     exact e
    ·rw [if_neg (λh=>h3 h.2.2)] at e
     simp [prD,chn3,h1,h2,h3]
     exact mE _ _ (hR _ _ (hE _ _ ⟨_,rfl,by rw [e]⟩))
   ·rw [if_neg (λh=>h2 h.2.1)] at e
    simp [prD,chn3,h1,h2]
    exact mE _ _ (hR _ _ (hE _ _ ⟨_,rfl,by rw [e]⟩))
  ·rw [if_neg (λh=>h1 h.1)] at e
   simp [prD,chn3,h1]
   exact mE _ _ (hR _ _ (hE _ _ ⟨_,rfl,by rw [e]⟩))
 ·rintro Z ⟨a,x,e,rfl⟩
  rw [length_map,drop_length,rowB] at e
  refine hK _ ?_
  simp
  exact hE _ _ ⟨_,rfl,by rw [e]⟩
noncomputable def markB (cs:List Int) (gs:List (Int×Int)) (m w k:Int):Bool:=decide (0<=k)&&decide (w=(gs.map λp=>mn (wt cs p) k).sum - (m - 1)*k)
theorem j9' (cs:List Int) (gs:List (Int×Int)) (m w k:Int) (hl:gs.length<=1000) (m0:0<=m) (m1:m<=1000):cvF cj' [.lst (gs.map prD),.int m,.lst (cs.map D.int),.int w,.int k]=some (.bl (markB cs gs m w k)):=by
 refine cI' ?_
 unfold cj'
 refine bu' rfl ?_
 rw [dY']
 refine ah' λK hK _=>?_
 simp
 refine bd' gs prD (λ_=>true) (λp=>.int (mn (wt cs p) k)) ?_
 simp [d1']
 refine ⟨by omega,λa b _=>?_,hK _ ?_⟩
 ·unfold mn
  rw [Int.min_def]
  split<;>split<;>omega
 ·have e:(List.filter (λ_=>true) gs).map (λp=>D.int (mn (wt cs p) k))=(gs.map λp=>mn (wt cs p) k).map D.int:=by
   rw [filter_eq_self.mpr (by simp),map_map]
   rfl
  obtain ⟨ms,em⟩:∃ ms,ms=gs.map λp=>mn (wt cs p) k:=⟨_,rfl⟩
  unfold markB
  rw [e,← em]
  by_cases h:0<=k
  ·simp [flR,h]
   rw [ai' (dU' _)]
   simp [fin,h]
   refine ⟨.inl ⟨by omega,by omega⟩,?_⟩
   rw [Bool.eq_iff_iff]
   simp
  ·simp [flR,h,fin]
abbrev Up (l:List Int):Prop:=l.Pairwise λa b=>a < b
theorem aH' {p:Int×Int}{x:Int}:x∈span p↔p.1<=x/\x<=p.2:=by
 unfold span
 rw [mem_map]
 constructor
 ·rintro ⟨k,hk,rfl⟩
  rw [mem_range] at hk
  omega
 ·rintro ⟨h1,h2⟩
  exact ⟨(x - p.1).toNat,by rw [mem_range];omega,by omega⟩
theorem dk' (p:Int×Int):Up (span p):=by
 unfold span Up
 rw [pairwise_map]
 exact List.Pairwise.imp (λh=>by omega) List.pairwise_lt_range
theorem lI' {l m:List Int} (h1:Up l) (h2:Up m) (h:∀ a∈l,∀ b∈m,a < b):Up (l++m):=pairwise_append.mpr ⟨h1,h2,h⟩
theorem e6' {a b c:Int} (h1:a<=b+1) (h2:b<=c):span (a,c)=span (a,b)++span (b+1,c):=by
 refine b7' (dk' _) (lI' (dk' _) (dk' _) λx hx y hy=>?_) λx=>?_
 ·rw [aH'] at hx hy
  dsimp only at hx hy
  omega
 ·rw [mem_append,aH',aH',aH']
  dsimp only
  omega
theorem dG' (a:Int):span (a,a)=[a]:=by
 refine b7' (dk' _) (List.pairwise_singleton _ _) λx=>?_
 rw [aH',mem_singleton]
 dsimp only
 omega
theorem aI' (a b:Int) (l:List Int):gapsL (a::b::l)=if a+1 < b then (a+1,b - 1)::gapsL (b::l) else gapsL (b::l):=by
 show (List.filter _ ((a,b)::((b::l).zip l))).map _=_
 rw [filter_cons]
 by_cases h:a+1 < b
 ·rw [if_pos (by simpa using h),if_pos h,map_cons]
  rfl
 ·rw [if_neg (show ¬ decide (a+1 < b)=true by simpa using h),if_neg h];rfl
inductive Jn:Int->Int->List Int->List (Int×Int)->List (Int×Int)->List (Int×Int)->Prop
 | nil {lo a:Int}:Jn lo a [] [(lo,a)] [] []
 | adj {lo a b:Int}{l:List Int}{row t u:List (Int×Int)}:b=a+1->Jn lo b l row t u->Jn lo a (b::l) row t u
 | cut {lo a b:Int}{l:List Int}{row t u:List (Int×Int)}:a+1 < b->Jn b b l row t u->Jn lo a (b::l) ((lo,a)::row) ((a+1,b - 1)::t) u
 | over {lo a b:Int}{l:List Int}{row t u:List (Int×Int)}:a+1 < b->Jn lo b l row t u->Jn lo a (b::l) row t ((a+1,b - 1)::u)
theorem Jn.perm {lo a:Int}{l:List Int}{row t u:List (Int×Int)} (h:Jn lo a l row t u):(t++u).Perm (gapsL (a::l)):=by
 induction h with
 | nil=>exact List.Perm.refl _
 | adj e _ ih=>rw [aI',if_neg (by omega)];exact ih
 | cut e _ ih=>rw [aI',if_pos e];exact ih.cons _
 | over e _ ih=>rw [aI',if_pos e];exact perm_middle.trans (ih.cons _)
theorem Jn.len {lo a:Int}{l:List Int}{row t u:List (Int×Int)} (h:Jn lo a l row t u):row.length=t.length+1:=by
 induction h with
 | nil=>rfl
 | adj e _ ih=>exact ih
 | cut e _ ih=>rw [length_cons,length_cons,ih]
 | over e _ ih=>exact ih
def RowUp (n:Int):Int->List (Int×Int)->Prop
 | _,[]=>True
 | a,p::ss=>a < p.1/\p.1<=p.2/\p.2 < n/\RowUp n p.2 ss
theorem RowUp.low {n c:Int}:∀ {ss:List (Int×Int)}{a:Int},RowUp n a ss->c<=a->RowUp n c ss
 | [],_,_,_=>trivial
 | p::ss,a,h,hc=>⟨by have:=h.1;omega,h.2.1,h.2.2.1,h.2.2.2⟩
theorem Jn.row {n lo a:Int}{l:List Int}{row t u:List (Int×Int)} (h:Jn lo a l row t u):lo<=a->(∀ x∈a::l,x < n)->RowUp n (lo - 1) row:=by
 induction h with
 | nil=>exact λh1 h2=>⟨by dsimp only;omega,h1,h2 _ mem_cons_self,trivial⟩
 | adj e _ ih=>exact λh1 h2=>ih (by omega) λx hx=>h2 x (mem_cons_of_mem _ hx)
 | cut e _ ih=>exact λh1 h2=>⟨by dsimp only;omega,h1,h2 _ mem_cons_self,(ih (Int.le_refl _) λx hx=>h2 x (mem_cons_of_mem _ hx)).low (by dsimp only;omega)⟩
 | over e _ ih=>exact λh1 h2=>ih (by omega) λx hx=>h2 x (mem_cons_of_mem _ hx)
theorem RowUp.up {n:Int}:∀ {ss:List (Int×Int)}{a:Int},RowUp n a ss->Up (ss.flatMap span)/\∀ x∈ss.flatMap span,a < x/\x < n
 | [],a,_=>⟨List.Pairwise.nil,λx hx=>by simp at hx⟩
 | p::ss,a,h=>by
  obtain ⟨h1,h2,h3,h4⟩:=h
  obtain ⟨g1,g2⟩:=RowUp.up h4
  rw [flatMap_cons]
  refine ⟨lI' (dk' p) g1 λx hx y hy=>?_,λx hx=>?_⟩
  ·have:=(aH'.mp hx).2
   have:=(g2 y hy).1
   omega
  ·rcases mem_append.mp hx with z | z
   ·have:=aH'.mp z
    omega
   ·have:=g2 x z
    omega
theorem Jn.has {lo a:Int}{l:List Int}{row t u:List (Int×Int)} (h:Jn lo a l row t u):lo<=a->(∀ x,lo<=x->x<=a->x∈row.flatMap span)/\∀ x∈a::l,x∈row.flatMap span:=by
 induction h with
 | @nil lo a =>
  intro h1
  have key:∀ x,lo<=x->x<=a->x∈[(lo,a)].flatMap span:=λx h1 h2=>by
   rw [flatMap_cons,List.flatMap_nil,append_nil,aH']
   exact ⟨h1,h2⟩
  exact ⟨key,λx hx=>by rw [mem_singleton] at hx;subst hx;exact key _ h1 (Int.le_refl _)⟩
 | adj e _ ih =>
  intro h1
  obtain ⟨g1,g2⟩:=ih (by omega)
  exact ⟨λx a b=>g1 x a (by omega),λx hx=>by
   rcases mem_cons.mp hx with z | z
   ·subst z;exact g1 _ h1 (by omega)
   ·exact g2 x z⟩
 | @cut lo a b l row t u e _ ih =>
  intro h1
  obtain ⟨g1,g2⟩:=ih (Int.le_refl _)
  have key:∀ x,lo<=x->x<=a->x∈((lo,a)::row:List (Int×Int)).flatMap span:=λx h1 h2=>by
   rw [flatMap_cons]
   exact mem_append_left _ (aH'.mpr ⟨h1,h2⟩)
  refine ⟨key,λx hx=>?_⟩
  rcases mem_cons.mp hx with z | z
  ·subst z;exact key _ h1 (Int.le_refl _)
  ·rw [flatMap_cons]
   exact mem_append_right _ (g2 x z)
 | over e _ ih =>
  intro h1
  obtain ⟨g1,g2⟩:=ih (by omega)
  exact ⟨λx a b=>g1 x a (by omega),λx hx=>by
   rcases mem_cons.mp hx with z | z
   ·subst z;exact g1 _ h1 (by omega)
   ·exact g2 x z⟩
noncomputable def sumN (P:Int->Bool) (f:Int->Int) (l:List Int):Int:=((l.filter λx=>!P x).map f).sum
theorem dH' (P:Int->Bool) (f:Int->Int) (l m:List Int):sumN P f (l++m)=sumN P f l+sumN P f m:=by
 unfold sumN
 rw [List.filter_append,map_append,sum_append]
theorem et' {P:Int->Bool}{f:Int->Int}{a:Int} (h:P a=true):sumN P f [a]=0:=by
 unfold sumN
 rw [filter_cons,h]
 rfl
theorem m0' {P:Int->Bool}{f:Int->Int}{l:List Int} (h:∀ x∈l,P x=false):sumN P f l=(l.map f).sum:=by
 unfold sumN
 rw [filter_eq_self.mpr λx hx=>by rw [h x hx];rfl]
theorem Jn.sum {P:Int->Bool}{f:Int->Int}{lo a:Int}{l:List Int}{row t u:List (Int×Int)} (h:Jn lo a l row t u):lo<=a->(∀ x∈a::l,P x=true)->(∀ g∈gapsL (a::l),∀ x∈span g,P x=false) →
  sumN P f (row.flatMap span)=sumN P f (span (lo,a))+(u.map λg=>((span g).map f).sum).sum:=by
 induction h with
 | nil =>
  intro _ _ _
  rw [flatMap_cons,List.flatMap_nil,append_nil]
  simp
 | @adj lo a b l row t u e _ ih =>
  intro h1 h2 h3
  rw [aI',if_neg (by omega)] at h3
  rw [ih (by omega) (λx hx=>h2 x (mem_cons_of_mem _ hx)) h3,e6' (show lo<=a+1 by omega) (show a<=b by omega),dH']
  have:span (a+1,b)=[b]:=by rw [e];exact dG' _
  rw [this,et' (h2 b (by simp))]
  omega
 | @cut lo a b l row t u e _ ih =>
  intro h1 h2 h3
  rw [aI',if_pos e] at h3
  rw [flatMap_cons,dH',ih (Int.le_refl _) (λx hx=>h2 x (mem_cons_of_mem _ hx)) (λg hg=>h3 g (mem_cons_of_mem _ hg)),dG',et' (h2 b (by simp))]
  omega
 | @over lo a b l row t u e _ ih =>
  intro h1 h2 h3
  rw [aI',if_pos e] at h3
  have c1:span (lo,b)=span (lo,a)++(span (a+1,b - 1)++[b]):=by
   rw [e6' (show lo<=a+1 by omega) (show a<=b by omega),e6' (show a+1<=(b - 1)+1 by omega) (show b - 1<=b by omega),Int.sub_add_cancel,dG']
  rw [ih (by omega) (λx hx=>h2 x (mem_cons_of_mem _ hx)) (λg hg=>h3 g (mem_cons_of_mem _ hg)),c1,dH',dH',et' (h2 b (by simp)),m0' (h3 _ mem_cons_self),map_cons,sum_cons]
  omega
theorem d2':∀ {l:List Int}{a:Int},Up (a::l)->∀ g∈gapsL (a::l),a < g.1/\g.1<=g.2/\∀ x∈span g,x∉a::l
 | [],a,_,g,hg=>by simp [gapsL] at hg
 | b::l,a,u,g,hg=>by
  obtain ⟨u1,u2⟩:=pairwise_cons.mp u
  have ab:=u1 b mem_cons_self
  rw [aI'] at hg
  have old:g∈gapsL (b::l)->a < g.1/\g.1<=g.2/\∀ x∈span g,x∉a::b::l:=λhg=>by
   obtain ⟨g1,g2,g3⟩:=d2' u2 g hg
   refine ⟨by omega,g2,λx hx z=>?_⟩
   rcases mem_cons.mp z with z | z
   ·have:=(aH'.mp hx).1;omega
   ·exact g3 x hx z
  split at hg
  ·rcases mem_cons.mp hg with z | z
   ·subst z
    refine ⟨by dsimp only;omega,by dsimp only;omega,λx hx z=>?_⟩
    have hx:=aH'.mp hx
    dsimp only at hx
    rcases mem_cons.mp z with z | z
    ·omega
    ·rcases mem_cons.mp z with z | z
     ·omega
     ·have:=(pairwise_cons.mp u2).1 x z
      omega
   ·exact old z
  ·exact old hg
theorem d3' {n:Int}:∀ {l:List Int},(∀ x∈l,x < n)->∀ g∈gapsL l,g.2 < n
 | [],_,g,hg=>by simp [gapsL] at hg
 | [a],_,g,hg=>by simp [gapsL] at hg
 | a::b::l,h,g,hg=>by
  rw [aI'] at hg
  have h':∀ x∈b::l,x < n:=λx hx=>h x (mem_cons_of_mem _ hx)
  split at hg
  ·rcases mem_cons.mp hg with z | z
   ·subst z
    have:=h b (by simp)
    dsimp only
    omega
   ·exact d3' h' g z
  ·exact d3' h' g hg
theorem jk' {n:Int}:∀ {l:List Int}{a:Int},Up (a::l)->(∀ x∈a::l,x < n)->a+2*(gapsL (a::l)).length < n
 | [],a,_,h=>by have:=h a mem_cons_self;simpa [gapsL] using this
 | b::l,a,u,h=>by
  obtain ⟨u1,u2⟩:=pairwise_cons.mp u
  have ab:=u1 b mem_cons_self
  have:=jk' (n:=n) u2 λx hx=>h x (mem_cons_of_mem _ hx)
  rw [aI']
  split
  ·rw [length_cons];omega
  ·omega
theorem fG' {n:Int}:∀ {l:List Int}{a:Int},Up l->(∀ x∈l,a<=x/\x < n)->(l.length:Int)<=(n - a).toNat
 | [],_,_,_=>by rw [List.length_nil];omega
 | b::l,a,u,h=>by
  obtain ⟨u1,u2⟩:=pairwise_cons.mp u
  have:=fG' (n:=n) (a:=b+1) u2 λx hx=>⟨by have:=u1 x hx;omega,(h x (mem_cons_of_mem _ hx)).2⟩
  have:=h b mem_cons_self
  rw [length_cons]
  omega
noncomputable def partsF:Int->Int->List Int->List (Int×Int)
 | lo,a,[]=>[(lo,a)]
 | lo,a,b::l=>if a=b - 1 then partsF lo b l else (lo,a)::partsF b b l
theorem bU':∀ (lo a:Int) (l:List Int),∃ h ps,partsF lo a l=(lo,h)::ps
 | lo,a,[]=>⟨a,[],rfl⟩
 | lo,a,b::l=>by
  rw [partsF]
  split
  ·exact bU' lo b l
  ·exact ⟨a,_,rfl⟩
theorem e7':∀ {l:List Int}{a:Int} (lo:Int),Up (a::l)->Jn lo a l (partsF lo a l) (gapsL (a::l)) []
 | [],a,lo,_=>Jn.nil
 | b::l,a,lo,u=>by
  obtain ⟨u1,u2⟩:=pairwise_cons.mp u
  have ab:=u1 b mem_cons_self
  rw [partsF,aI']
  by_cases h:a=b - 1
  ·rw [if_pos h,if_neg (by omega)]
   exact Jn.adj (by omega) (e7' lo u2)
  ·rw [if_neg h,if_pos (by omega)]
   exact Jn.cut (by omega) (e7' b u2)
inductive Jp:Int->Int->List (Int×Int)->List (Int×Int)->Prop
 | nil {lo hi:Int}:Jp lo hi [] [(lo,hi)]
 | cut {lo hi:Int}{p:Int×Int}{ps row:List (Int×Int)}:Jp p.1 p.2 ps row->Jp lo hi (p::ps) ((lo,hi)::row)
 | over {lo hi:Int}{p:Int×Int}{ps row:List (Int×Int)}:Jp lo p.2 ps row->Jp lo hi (p::ps) row
theorem g0':∀ {l:List Int}{a:Int} (lo fV h:Int) (ps row:List (Int×Int)),Up (a::l)->partsF lo a l=(lo,h)::ps->Jp fV h ps row->∃ t u,Jn fV a l row t u
 | [],a,lo,fV,h,ps,row,_,e,j=>by
  rw [partsF] at e
  cases e
  cases j
  exact ⟨_,_,Jn.nil⟩
 | b::l,a,lo,fV,h,ps,row,u,e,j=>by
  obtain ⟨u1,u2⟩:=pairwise_cons.mp u
  have ab:=u1 b mem_cons_self
  rw [partsF] at e
  by_cases c:a=b - 1
  ·rw [if_pos c] at e
   obtain ⟨t,v,k⟩:=g0' lo fV h ps row u2 e j
   exact ⟨t,v,Jn.adj (by omega) k⟩
  ·rw [if_neg c] at e
   injection e with e1 e2
   injection e1 with _ e1
   subst e1
   obtain ⟨h',dZ,e3⟩:=bU' b b l
   rw [e3] at e2
   subst e2
   cases j with
   | cut j =>
    obtain ⟨t,v,k⟩:=g0' b b h' dZ _ u2 e3 j
    exact ⟨_,_,Jn.cut (by omega) k⟩
   | over j =>
    obtain ⟨t,v,k⟩:=g0' b fV h' dZ _ u2 e3 j
    exact ⟨_,_,Jn.over (by omega) k⟩
theorem f4':∀ {l:List Int}{a:Int} (lo:Int),Up (a::l)->Jn lo a l [(lo,(a::l).getLast (by simp))] [] (gapsL (a::l))
 | [],a,lo,_=>Jn.nil
 | b::l,a,lo,u=>by
  obtain ⟨u1,u2⟩:=pairwise_cons.mp u
  have ab:=u1 b mem_cons_self
  have ih:=f4' lo u2
  rw [aI',getLast_cons (by simp)]
  by_cases h:a+1 < b
  ·rw [if_pos h]
   exact Jn.over h ih
  ·rw [if_neg h]
   exact Jn.adj (by omega) ih
theorem dI':∀ {l:List Int}{a:Int} (lo:Int) (h:partsF lo a l≠[]),((partsF lo a l).getLast h).2=(a::l).getLast (by simp)
 | [],a,lo,h=>rfl
 | b::l,a,lo,h=>by
  rw [getLast_cons (by simp)]
  by_cases c:a=b - 1
  ·have e:partsF lo a (b::l)=partsF lo b l:=by rw [partsF,if_pos c]
   simp only [e]
   exact dI' lo _
  ·have e:partsF lo a (b::l)=(lo,a)::partsF b b l:=by rw [partsF,if_neg c]
   obtain ⟨h',dZ,e3⟩:=bU' b b l
   have ne:partsF b b l≠[]:=by rw [e3];simp
   simp only [e]
   rw [getLast_cons ne]
   exact dI' b ne
theorem fH' (c:Int×Int->Bool):∀ {l:List Int}{a:Int} (lo:Int),Up (a::l)->Jn lo a l ((lo::((gapsL (a::l)).filter c).map λg=>g.2+1).zip ((((gapsL (a::l)).filter c).map λg=>g.1 - 1)++[(a::l).getLast (by simp)])) ((gapsL (a::l)).filter c) ((gapsL (a::l)).filter λg=>!c g)
 | [],a,lo,_=>Jn.nil
 | b::l,a,lo,u=>by
  obtain ⟨u1,u2⟩:=pairwise_cons.mp u
  have ab:=u1 b mem_cons_self
  rw [aI',getLast_cons (by simp)]
  by_cases h:a+1 < b
  ·rw [if_pos h,filter_cons,filter_cons]
   cases e:c (a+1,b - 1) with
   | true =>
    rw [if_pos rfl,if_neg (by simp),map_cons,map_cons,List.cons_append,List.zip_cons_cons]
    have e1:(a+1 - 1:Int)=a:=by omega
    have e2:(b - 1+1:Int)=b:=by omega
    dsimp only
    rw [e1,e2]
    exact Jn.cut h (fH' c b u2)
   | false =>
    rw [if_neg (by simp),if_pos (by simp)]
    exact Jn.over h (fH' c lo u2)
  ·rw [if_neg h]
   exact Jn.adj (by omega) (fH' c lo u2)
theorem dl':∀ {l:List Int},Up l->(gapsL l).Pairwise λg h=>g.1 < h.1
 | [],_=>by simp [gapsL]
 | [a],_=>by simp [gapsL]
 | a::b::l,u=>by
  obtain ⟨u1,u2⟩:=pairwise_cons.mp u
  have ih:=dl' u2
  rw [aI']
  split
  ·refine pairwise_cons.mpr ⟨λg hg=>?_,ih⟩
   have:=(d2' u2 g hg).1
   dsimp only
   omega
  ·exact ih
theorem lJ':∀ {l m:List (Int×Int)},(l.Pairwise λg h=>g.1 < h.1)->(m.Pairwise λg h=>g.1 < h.1)->(∀ x,x∈l↔x∈m)->l=m
 | [],[],_,_,_=>rfl
 | [],b::m,_,_,h=>absurd ((h b).mpr mem_cons_self) (by simp)
 | a::l,[],_,_,h=>absurd ((h a).mp mem_cons_self) (by simp)
 | a::l,b::m,u,v,h=>by
  obtain ⟨u1,u2⟩:=pairwise_cons.mp u
  obtain ⟨v1,v2⟩:=pairwise_cons.mp v
  have e:a=b:=by
   rcases mem_cons.mp ((h a).mp mem_cons_self) with z | z
   ·exact z
   ·rcases mem_cons.mp ((h b).mpr mem_cons_self) with y | y
    ·exact y.symm
    ·have:=v1 a z
     have:=u1 b y
     omega
  subst e
  rw [lJ' u2 v2 λx=>?_]
  constructor
  ·intro hx
   rcases mem_cons.mp ((h x).mp (mem_cons_of_mem a hx)) with z | z
   ·have:=u1 x hx;rw [z] at this;omega
   ·exact z
  ·intro hx
   rcases mem_cons.mp ((h x).mpr (mem_cons_of_mem a hx)) with z | z
   ·have:=v1 x hx;rw [z] at this;omega
   ·exact z
theorem jl':∀ {l:List (Int×Int)}{a b:Int×Int},(l.Pairwise λg h=>g.1 < h.1)->a∈l->b∈l->a.1=b.1->a=b
 | c::l,a,b,u,ha,hb,e=>by
  obtain ⟨u1,u2⟩:=pairwise_cons.mp u
  rcases mem_cons.mp ha with z | z<;>rcases mem_cons.mp hb with y | y
  ·rw [z,y]
  ·have:=u1 b y;rw [z] at e;omega
  ·have:=u1 a z;rw [y] at e;omega
  ·exact jl' u2 z y e
theorem h5' {l:List (Int×Int)} (u:l.Pairwise λg h=>g.1 < h.1):l.Nodup:=u.imp λh e=>by rw [e] at h;omega
theorem qN' {a b:Int×Int} (h:leD (prD a) (prD b)=true):a.1<=b.1:=by
 unfold leD prD at h
 rw [de'] at h
 unfold dlA at h
 rw [cOA,cO] at h
 unfold cI at h
 by_cases c:b.1 < a.1
 ·rw [if_pos c] at h
  simp at h
 ·omega
theorem iB' {N:List Int}{T:List (Int×Int)} (u:Up N) (hs:∀ x∈T,x∈gapsL N) (nd:T.Nodup):sortD (T.map prD)=((gapsL N).filter λg=>decide (g∈T)).map prD:=by
 have e0:sortD (T.map prD)=(T.mergeSort λa b=>leD (prD a) (prD b)).map prD:=by
  unfold sortD
  exact (List.map_mergeSort (r:=λa b=>leD (prD a) (prD b)) (s:=leD) (f:=prD) (l:=T) λ_ _ _ _=>rfl).symm
 have pm:(T.mergeSort λa b=>leD (prD a) (prD b)).Perm T:=List.mergeSort_perm _ _
 have up:(T.mergeSort λa b=>leD (prD a) (prD b)).Pairwise λa b=>leD (prD a) (prD b)=true:=List.pairwise_mergeSort (le:=λa b=>leD (prD a) (prD b)) (λa b c=>kS' (prD a) (prD b) (prD c)) (λa b=>iW' (prD a) (prD b)) T
 have gu:=dl' u
 rw [e0]
 refine congrArg _ (lJ' ?_ (gu.sublist List.filter_sublist) λx=>?_)
 ·have dB:=List.Pairwise.and up (pm.nodup_iff.mpr nd)
  refine imp_of_mem (λ{a b} ha hb h=>?_) dB
  have h1:=qN' h.1
  have:a.1≠b.1:=λe=>h.2 (jl' gu (hs a (pm.mem_iff.mp ha)) (hs b (pm.mem_iff.mp hb)) e)
  omega
 ·rw [pm.mem_iff,mem_filter,decide_eq_true_iff]
  exact ⟨λh=>⟨hs x h,h⟩,λh=>h.2⟩
theorem fI' (ds:List D){i:Int} (h:0<=i):cutD ds none (some i)=ds.take i.toNat:=by
 unfold cutD HT.sIx
 simp only []
 rw [if_neg (by omega),drop_zero,Nat.sub_zero]
 rcases Nat.le_total i.toNat ds.length with c | c
 ·rw [min_eq_left c]
 ·rw [Nat.min_eq_right c,take_length,take_of_length_le c]
theorem qf' (ds:List D){i:Int} (h:0<=i):cutD ds (some i) none=ds.drop i.toNat:=by
 unfold cutD HT.sIx
 simp only []
 rw [if_neg (by omega)]
 rcases Nat.le_total i.toNat ds.length with c | c
 ·rw [min_eq_left c]
  refine take_of_length_le ?_;simp
 ·rw [Nat.min_eq_right c,drop_length,drop_of_length_le c,List.take_nil]
theorem oS' (ds:List D):cutD ds (some (-1)) none=ds.drop (ds.length - 1):=by
 unfold cutD HT.sIx
 simp only []
 rw [if_pos (by omega),show (-1+(ds.length:Int)).toNat=ds.length - 1 by omega]
 refine take_of_length_le ?_;simp
def falL (cs N:List Int):List (Int×Int):=srtK (0,0) ((gapsL N).map (wt cs)) (gapsL N)
theorem aU' (cs N:List Int):(falL cs N).Perm (gapsL N):=lF' _ (by simp)
def fewW (cs N:List Int):List Int:=(falL cs N).map (wt cs)
noncomputable def cutG (cs N:List Int) (k:Nat):List (Int×Int):=(gapsL N).filter λg=>decide (g∈(falL cs N).take k)
noncomputable def rowF (cs N:List Int) (k:Nat):List (Int×Int):=(N.take 1++(cutG cs N k).map λ(g:Int×Int)=>g.2+1).zip (((cutG cs N k).map λ(g:Int×Int)=>g.1 - 1)++N.drop (N.length - 1))
noncomputable def fewD (cs N:List Int) (k:Nat):D:=.tup [.int ((fewW cs N).drop k).sum,.lst ((rowF cs N k).map prD),.int (maxI 0 ((fewW cs N).drop k))]
theorem ka' {ds:List D}{n:Nat} (h:∀ d∈ds,dep d<=n):depA ds<=n:=by
 induction ds with
 | nil=>simp [depA]
 | cons d ds ih =>
  rw [depA]
  have h1:=h d mem_cons_self
  have h2:=ih λd hd=>h d (mem_cons_of_mem _ hd)
  omega
theorem m1' {cs N:List Int}{k:Nat} (u:Up N) (h:(gapsL N).length < 64):sortF [.lst (((falL cs N).take k).map prD)]=some ((cutG cs N k).map prD):=by
 have pm:=aU' cs N
 have hm:∀ x∈(falL cs N).take k,x∈gapsL N:=λx hx=>pm.mem_iff.mp (mem_of_mem_take hx)
 have nd:((falL cs N).take k).Nodup:=(pm.nodup_iff.mpr (h5' (dl' u))).sublist (take_sublist _ _)
 have ln:((falL cs N).take k).length < 64:=by
  have:=pm.length_eq
  rw [length_take]
  omega
 unfold cutG
 generalize (falL cs N).take k=T at *
 rw [← iB' u hm nd]
 refine mW' ⟨by simpa using ln,?_,?_,.inr (.inl ?_)⟩
 ·unfold cmAll
  rw [all_eq_true]
  intro a ha
  rw [all_eq_true]
  intro b hb
  obtain ⟨x,_,rfl⟩:=mem_map.mp ha
  obtain ⟨y,_,rfl⟩:=mem_map.mp hb
  simp [prD,cmB,cmA]
 ·have:depA (T.map prD)<=2:=ka' λd hd=>by
   obtain ⟨x,_,rfl⟩:=mem_map.mp hd
   simp [prD,dep,depA]
  omega
 ·rw [all_eq_true]
  intro a ha
  obtain ⟨x,_,rfl⟩:=mem_map.mp ha
  rfl
theorem e8' {Z:Gm}{K:Fl->Gm->Prop}{i j:Nat}{g:List R->Option (R×List R)}{d:D}{os:List D} (hj:Z[j]?=some (some (.val d))) (h:coF g [d]=some os) (hi:i < Z.length) (k:K .nx (Z.set i (some (.val (.lst os))))):wp (setV i (frz (fn1 (coF g) (consA (nm j) nilA)))) Z K:=by
 rw [oP',p9',p8',mS',qL',hj]
 show wp nilA Z _
 rw [oO',ai' h]
 exact ⟨hi,k⟩
theorem lK' {cs N:List Int} (h:(gapsL N).length < 64):sortLF (fn1 (cvF aC') (consA (nm 0) (consA (nm 1) nilA))) (.lst ((gapsL N).map prD)) (.lst (cs.map D.int))=some ((falL cs N).map prD):=by
 unfold sortLF
 dsimp only
 rw [jj']
 dsimp only
 rw [if_pos (by simpa using h),lH' prD (0,0) .non (by simp)]
 rfl
theorem oT' {l m:List Int} (h:l.length=m.length) (h2:l.length<=1000):zipLF [.lst (l.map D.int),.lst (m.map D.int)]=some ((l.zip m).map prD):=by
 unfold zipLF
 dsimp only
 rw [if_pos ⟨by simpa using h,by simpa using h2⟩,gE']
 rfl
theorem qg' {ss:List (Int×Int)}{cs:List Int}{k:Nat} (hb:∀ p∈ss,SOk p) (hl:ss.length<=100) (few:(nums ss).length<=299) (ne:nums ss≠[]) (bx:(gapsL (nums ss)).length < 64) :
  cvF bp' [.lst (ss.map prD),.int ((k:Int)+1),.lst (cs.map D.int)]=some (fewD cs (nums ss) k):=by
 have up:Up (nums ss):=bt' _
 have n1:=dF' hb hl few
 obtain ⟨N,hN⟩:∃ N,nums ss=N:=⟨_,rfl⟩
 rw [hN] at few ne bx up n1 ⊢
 have gl:=ji' (l:=N) (by omega)
 have fl:=(aU' cs N).length_eq
 have cl:(cutG cs N k).length<=(gapsL N).length:=List.length_filter_le _ _
 refine cI' ?_
 unfold bp'
 refine bu' rfl ?_
 rw [eV']
 refine ah' λK hK _=>e8' rfl n1 (show 3 < 9 by decide) (hK _ ?_)
 dsimp only [map,length,replicate,List.append,HAppend.hAppend,Append.append,List.set]
 refine ah' λK hK _=>?_
 simp [sortLam]
 rw [ai' gl]
 refine ⟨.lst (cs.map D.int),_,rfl,?_⟩
 dsimp only
 rw [ai' (lK' bx)]
 refine ⟨by simp,hK _ ?_⟩
 refine ah' λK hK _=>?_
 simp
 rw [fI' _ (by omega),← map_take,toNat_natCast,ai' (m1' up bx)]
 refine ⟨by simp,hK _ ?_⟩
 refine ah' λK hK _=>?_
 simp
 refine bd' ((falL cs N).drop k) prD (λ_=>true) (λp=>.int (wt cs p)) ?_
 simp [d1']
 rw [qf' _ (by omega),toNat_natCast,← map_drop]
 refine ⟨rfl,by omega,hK _ ?_⟩
 have e6:((List.drop k (falL cs N)).filter λ_=>true).map (λp=>D.int (wt cs p))=((fewW cs N).drop k).map D.int:=by
  unfold fewW
  rw [filter_eq_self.mpr (by simp),← map_drop,map_map]
  rfl
 rw [e6]
 unfold fewD rowF
 generalize (fewW cs N).drop k=ws
 generalize cutG cs N k=O at *
 clear e6 fl gl n1 hb
 refine ah' λK hK _=>?_
 simp
 refine bd' O prD (λ_=>true) (λg=>.int (g.2+1)) ?_
 simp [prD]
 have fo:O.filter (λ_=>true)=O:=filter_eq_self.mpr (by simp)
 rw [fI' _ (by omega),fo]
 refine ⟨by omega,by rw [length_take];simp;omega,hK _ ?_⟩
 have e7:(N.map D.int).take (Int.toNat 1)++O.map (λg=>D.int (g.2+1))=(N.take 1++O.map λ(g:Int×Int)=>g.2+1).map D.int:=by
  rw [map_append,map_take,map_map]
  rfl
 rw [e7]
 have nl:0 < N.length:=List.length_pos_iff.mpr ne
 have l7:(N.take 1++O.map λ(g:Int×Int)=>g.2+1).length=O.length+1:=by
  rw [length_append,length_take,length_map]
  omega
 clear e7
 generalize (N.take 1++O.map λ(g:Int×Int)=>g.2+1)=L at *
 refine ah' λK hK _=>?_
 simp [un1,negI]
 refine bd' O prD (λ_=>true) (λg=>.int (g.1 - 1)) ?_
 simp [prD]
 rw [oS',fo]
 refine ⟨by omega,by rw [length_drop];simp;omega,hK _ ?_⟩
 have e8:O.map (λg=>D.int (g.1 - 1))++(N.map D.int).drop ((N.map D.int).length - 1)=((O.map λ(g:Int×Int)=>g.1 - 1)++N.drop (N.length - 1)).map D.int:=by
  rw [map_append,map_drop,map_map,length_map]
  rfl
 rw [e8]
 have l8:((O.map λ(g:Int×Int)=>g.1 - 1)++N.drop (N.length - 1)).length=O.length+1:=by
  rw [length_append,length_drop,length_map]
  omega
 clear e8
 generalize ((O.map λ(g:Int×Int)=>g.1 - 1)++N.drop (N.length - 1))=M at *
 simp [flR]
 rw [ai' (dU' ws)]
 simp
 rw [ai' (oT' (by omega) (by omega))]
 simp
 rw [ai' (oA' 0 ws)]
 simp [fin]
section
variable {Z:Gm}{QS:Fl->Gm->Prop}{QB:Bool->Gm->Prop}{QL:List D->Gm->Prop}{QK:List (Int×D)->Gm->Prop}
@[simp ↓] theorem ry' {i:Nat}{g:M (List (Int×D))}:wp (setK i g) Z QS↔wp g Z λd ae=>i < ae.length/\QS .nx (ae.set i (some (.dic d))):=by simp [setK]
@[simp ↓] theorem q0' {i:Nat}:wp (lookK i) Z QK↔match Z[i]? with
  | some (some (.dic ah))=>QK ah Z
  | _=>False:=by
 unfold wp lookK
 rcases e:Z[i]? with _ | _ | r
 ·simp
 ·simp
 ·cases r<;>simp<;>exact ⟨λ⟨_,_,⟨h1,h2⟩,q⟩=>by subst h1;subst h2;exact q,λq=>⟨_,_,⟨rfl,rfl⟩,q⟩⟩
@[simp ↓] theorem q2' {i:Nat}:wp (tookK i) Z QK↔match Z[i]? with
  | some (some (.dic ah))=>QK ah (Z.set i none)
  | _=>False:=by
 unfold wp tookK
 rcases e:Z[i]? with _ | _ | r
 ·simp
 ·simp
 ·cases r<;>simp<;>exact ⟨λ⟨_,_,⟨h1,h2⟩,q⟩=>by subst h1;subst h2;exact q,λq=>⟨_,_,⟨rfl,rfl⟩,q⟩⟩
@[simp ↓] theorem r7' {i:Nat}{F:List (Int×D)->Option (List (Int×D))}:wp (wrK i F) Z QS↔match Z[i]? with
  | some (some (.dic ah))=>∃ es,F ah=some es/\QS .nx (Z.set i (some (.dic es)))
  | _=>False:=by
 unfold wp wrK
 rcases e:Z[i]? with _ | _ | r
 ·simp
 ·simp
 ·cases r with
  | dic ah =>
   rcases he:F ah with _ | es
   ·simp [he]
   ·simp [he]
    exact ⟨λ⟨_,_,⟨h1,h2⟩,q⟩=>by subst h1;subst h2;exact q,λq=>⟨_,_,⟨rfl,rfl⟩,q⟩⟩
  | _=>simp
@[simp ↓] theorem rz' {i:Nat}:wp (retK i) Z QS↔wp (tookK i) Z λd ae=>QS (.rt (.dic d)) ae:=by simp only [retK,aB',dj']
@[simp ↓] theorem rA' {i:Nat}{gk gv:M D}:wp (putG i gk gv) Z QS↔wp gv Z λd ae=>wp (lookK i) ae λ_ ao=>wp gk ao λn aQ=>wp (wrK i (putGF n d)) aQ QS:=by simp only [putG,aB']
@[simp ↓] theorem r8' {neg:Bool}{i:Nat}{g:M D}:wp (inK neg i g) Z QB↔wp g Z λd ae=>wp (lookK i) ae λah ao=>wp (lft (inKF neg d ah)) ao QB:=by simp only [inK,aB']
@[simp ↓] theorem r9' {g:M (List (Int×D))}:wp (itK g) Z QL↔wp g Z λah ae=>QL (keysD ah) ae:=by simp only [itK,aB',dj']
@[simp ↓] theorem qU' {g:M (List (Int×D))}:wp (sortKI g) Z QL↔wp g Z λah ae=>wp (lft (sortKIF ah)) ae QL:=by simp only [sortKI,aB']
@[simp ↓] theorem q3':wp dlit0 Z QK↔QK [] Z:=by simp only [dlit0,dj']
end
theorem qh' {g:List R->Option (R×List R)}{ds:List D}{d:List (Int×D)} (h:wpF g (ds.map .val) λr _=>r=.dic d):ckF g ds=some d:=by
 obtain ⟨r,aT,e,rfl⟩:=h
 unfold ckF
 rw [e]
noncomputable def addN (am:List Int) (x:Int):List Int:=if x∈am then am else am++[x]
noncomputable def hadL (l:List Int):List Int:=l.foldl addN []
theorem h6' (l:List Int) (x:Int):hadL (l++[x])=addN (hadL l) x:=by
 unfold hadL
 rw [List.foldl_append]
 rfl
theorem m2' {P:List Int->Prop} (h0:P []) (hs:∀ l x,P l->P (l++[x])) (l:List Int):P l:=by
 have key:∀ m:List Int,P m.reverse:=by
  intro m
  induction m with
  | nil=>exact h0
  | cons x m ih=>rw [reverse_cons];exact hs _ _ ih
 have:=key l.reverse
 rwa [List.reverse_reverse] at this
theorem eu' (l:List Int):(hadL l).Nodup/\(hadL l).length<=l.length/\(∀ x,x∈hadL l↔x∈l)/\(l.Nodup->hadL l=l):=by
 induction l using m2' with
 | h0=>exact ⟨List.nodup_nil,le_refl _,λx=>Iff.rfl,λ_=>rfl⟩
 | hs l x ih =>
  obtain ⟨h1,h2,h3,h4⟩:=ih
  rw [h6']
  unfold addN
  by_cases c:x∈hadL l
  ·rw [if_pos c]
   refine ⟨h1,by simp;omega,λy=>?_,λnd=>?_⟩
   ·rw [h3,mem_append,mem_singleton]
    exact ⟨.inl,λz=>z.elim id λe=>by subst e;exact (h3 _).mp c⟩
   ·have:=(List.nodup_append.mp nd).2.2 x ((h3 x).mp c) x (by simp)
    exact absurd rfl this
  ·rw [if_neg c]
   refine ⟨List.nodup_append.mpr ⟨h1,by simp,λa ha b hb e=>?_⟩,by simp;omega,λy=>?_,λnd=>?_⟩
   ·rw [mem_singleton] at hb
    subst e;subst hb
    exact c ha
   ·rw [mem_append,mem_append,h3]
   ·rw [h4 (List.nodup_append.mp nd).1]
noncomputable def tabL (l:List Int):List (Int×D):=l.map λx=>(x,.bl true)
theorem f5' (k:Int):∀ l:List Int,(valD (tabL l) k).isSome=decide (k∈l)
 | []=>rfl
 | x::l=>by
  show (valD ((x,D.bl true)::tabL l) k).isSome=_
  rw [valD]
  by_cases e:x=k
  ·rw [if_pos e]
   simp [e]
  ·rw [if_neg e,f5' k l]
   have:¬ k=x:=λz=>e z.symm
   simp [this]
theorem oU' {l:List Int} (k:Int) (h:l.length < 1000000):putGF (.int k) (.bl true) (tabL l)=some (tabL (addN l k)):=by
 unfold putGF
 dsimp only
 rw [if_pos (by unfold tabL lim;simpa using h),f5']
 unfold addN
 by_cases c:k∈l
 ·rw [if_pos c,if_pos (by simpa using c)]
  unfold tabL
  rw [map_map]
  refine congrArg _ (map_congr_left λx _=>?_)
  show (if x=k then (x,D.bl true) else (x,D.bl true))=_
  split<;>rfl
 ·rw [if_neg c,if_neg (by simpa using c)]
  unfold tabL
  rw [map_append]
  rfl
theorem m3' (l:List Int):keysD (tabL l)=l.map D.int:=by
 unfold keysD tabL
 rw [map_map]
 rfl
theorem oV' (l:List Int):(tabL l).map (·.1)=l:=by
 unfold tabL
 rw [map_map]
 exact List.map_id _
theorem qi' {neg:Bool} (k:Int) (l:List Int):inKF neg (.int k) (tabL l)=some (if neg then !decide (k∈l) else decide (k∈l)):=by
 unfold inKF
 dsimp only
 rw [f5']
noncomputable def cAt (cs:List Int) (x:Int):Int:=cs.getD x.toNat 0
theorem qj' {cs:List Int}{g:Int×Int} (h1:0<=g.1) (h2:g.1<=g.2) (h3:g.2 < cs.length):((span g).map (cAt cs)).sum=wt cs g:=by
 rw [qM' h1 (by omega) h3]
 refine congrArg sum (ext_getElem ?_ λi hi hj=>?_)
 ·unfold span
  simp
  omega
 ·unfold span at hi
  simp at hi
  simp only [span,getElem_map,getElem_range,List.getElem_take,getElem_drop]
  unfold cAt
  have e:(g.1+(i:Int)).toNat=g.1.toNat+i:=by omega
  rw [e,getD_eq_getElem?_getD,getElem?_eq_getElem (by omega)]
  rfl
def Gd (n:Int) (N:List Int):Prop:=Up N/\∀ x∈N,0<=x/\x < n
noncomputable def inN (N:List Int) (x:Int):Bool:=decide (x∈N)
theorem e9' {cs:List Int}{a:Int}{l:List Int}{row t u:List (Int×Int)} (h:Gd cs.length (a::l)) (j:Jn a a l row t u):sumN (inN (a::l)) (cAt cs) (row.flatMap span)=(u.map (wt cs)).sum:=by
 obtain ⟨up,rg⟩:=h
 have ga:=d2' up
 have gb:=d3' (n:=cs.length) λx hx=>(rg x hx).2
 rw [j.sum (Int.le_refl a) (λx hx=>by unfold inN;simpa using hx) (λg hg x hx=>by unfold inN;simpa using (ga g hg).2.2 x hx),dG',et' (by unfold inN;simp),Int.zero_add]
 refine congrArg sum (map_congr_left λg hg=>?_)
 have hg:g∈gapsL (a::l):=j.perm.mem_iff.mp (mem_append_right _ hg)
 have a0:=(rg a mem_cons_self).1
 have:=ga g hg
 exact qj' (by omega) this.2.1 (gb g hg)
theorem h7' {N:List Int}{T:List (Int×Int)} (u:Up N) (hs:∀ x∈T,x∈gapsL N) (nd:T.Nodup):((gapsL N).filter λg=>decide (g∈T)).Perm T:=by
 have n1:((gapsL N).filter λg=>decide (g∈T)).Nodup:=(h5' (dl' u)).sublist List.filter_sublist
 refine eR' _ _ n1 (λx hx=>by simpa using (mem_filter.mp hx).2) ?_
 exact dW' _ _ nd λx hx=>mem_filter.mpr ⟨hs x hx,by simpa using hx⟩
theorem h8' (cs N:List Int) (k:Nat):∀ x∈(falL cs N).take k,x∈gapsL N:=λx hx=>(aU' cs N).mem_iff.mp (mem_of_mem_take hx)
theorem jm' {cs N:List Int} (u:Up N) (k:Nat):((falL cs N).take k).Nodup:=((aU' cs N).nodup_iff.mpr (h5' (dl' u))).sublist (take_sublist _ _)
theorem lL' (l:List Int) (h:l≠[]):l.drop (l.length - 1)=[l.getLast h]:=by
 have:0 < l.length:=List.length_pos_iff.mpr h
 rw [drop_eq_getElem_cons (by omega),List.getLast_eq_getElem,drop_of_length_le (by omega)]
theorem h9' {cs:List Int}{a:Int}{l:List Int} (u:Up (a::l)) (k:Nat):Jn a a l (rowF cs (a::l) k) (cutG cs (a::l) k) ((gapsL (a::l)).filter λg=>!decide (g∈(falL cs (a::l)).take k)):=by
 have j:=fH' (λg=>decide (g∈(falL cs (a::l)).take k)) a u
 have e:(a::l).drop ((a::l).length - 1)=[(a::l).getLast (by simp)]:=lL' _ _
 unfold rowF
 rw [e]
 exact j
theorem m4' {cs:List Int}{a:Int}{l:List Int} (h:Gd cs.length (a::l)) (k:Nat):sumN (inN (a::l)) (cAt cs) ((rowF cs (a::l) k).flatMap span)=((fewW cs (a::l)).drop k).sum:=by
 have j:=h9' (cs:=cs) h.1 k
 rw [e9' h j]
 have s1:=bq' (j.perm.map (wt cs))
 have s2:=bq' ((aU' cs (a::l)).map (wt cs))
 have s3:((cutG cs (a::l) k).map (wt cs)).sum=(((falL cs (a::l)).take k).map (wt cs)).sum:=bq' ((h7' h.1 (h8' cs _ k) (jm' h.1 k)).map (wt cs))
 have s4:((falL cs (a::l)).map (wt cs)).sum=(((falL cs (a::l)).take k).map (wt cs)).sum+((fewW cs (a::l)).drop k).sum:=by
  unfold fewW
  rw [← map_drop,← sum_append,← map_append,take_append_drop]
 rw [map_append,sum_append,s3] at s1
 omega
theorem oW' {cs:List Int}{a:Int}{l:List Int} (u:Up (a::l)) (k:Nat):(rowF cs (a::l) k).length<=k+1:=by
 rw [(h9' (cs:=cs) u k).len]
 have:=(h7' u (h8' cs _ k) (jm' (cs:=cs) u k)).length_eq
 have h2:(cutG cs (a::l) k).length=((falL cs (a::l)).take k).length:=this
 rw [h2,length_take]
 omega
theorem jn' {n:Int}:∀ {ss:List (Int×Int)}{a:Int},RowUp n a ss->rowB n a ss=true
 | [],_,_=>rfl
 | p::ss,a,h=>by
  rw [rowB,if_pos ⟨h.1,h.2.1,h.2.2.1⟩]
  exact jn' h.2.2.2
theorem kb' {n a:Int}{l:List Int}{row t u:List (Int×Int)} (h:Gd n (a::l)) (j:Jn a a l row t u):RowUp n (-1) row :=
 (j.row (n:=n) (Int.le_refl a) λx hx=>(h.2 x hx).2).low (by have:=(h.2 a mem_cons_self).1;omega)
theorem f6' {n:Int} (hn:n<=1000):∀ {ss:List (Int×Int)}{a:Int},-1<=a->RowUp n a ss->∀ p∈ss,SOk p
 | q::ss,a,ha,h,p,hp=>by
  obtain ⟨h1,h2,h3,h4⟩:=h
  rcases mem_cons.mp hp with z | z
  ·subst z
   exact ⟨by omega,by omega,by omega,by omega⟩
  ·exact f6' hn (a:=q.2) (by omega) h4 p z
theorem m5' {n a:Int}{ss:List (Int×Int)} (h:RowUp n a ss):nums ss=ss.flatMap span:=b7' (bt' _) h.up.1 λx=>aQ'
theorem lM' {n:Int}{N:List Int} (h:Gd n N) (hn:n<=100):N.length<=100:=by
 have:=fG' (n:=n) (a:=0) h.1 h.2
 omega
theorem ia' {n:Int}{N:List Int} (h:Gd n N) (hn:n<=100):(gapsL N).length < 64:=by
 cases N with
 | nil=>simp [gapsL]
 | cons a l =>
  have:=jk' (n:=n) h.1 λx hx=>(h.2 x hx).2
  have:=(h.2 a mem_cons_self).1
  omega
theorem cY' (cs N:List Int):Falls (fewW cs N):=j7' _ _ _
theorem qO' {cs:List Int} (h:∀ x∈cs,0<=x) (p:Int×Int):0<=wt cs p:=lG' λx hx=>h x (mem_of_mem_drop (mem_of_mem_take hx))
theorem ib' {cs:List Int} (h:∀ x∈cs,0<=x) (N:List Int):∀ x∈fewW cs N,0<=x:=λx hx=>by
 obtain ⟨g,_,rfl⟩:=mem_map.mp hx
 exact qO' h g
theorem m6' {cs:List Int} (h:∀ x∈cs,0<=x) (N:List Int) (k:Nat):markB cs (gapsL N) (k+1) ((fewW cs N).drop k).sum (maxI 0 ((fewW cs N).drop k))=true:=by
 obtain ⟨h1,h2⟩:=oQ' (cY' cs N) (ib' h N) k
 unfold markB
 generalize maxI 0 ((fewW cs N).drop k)=m at *
 have e:((gapsL N).map λp=>mn (wt cs p) m).sum=((fewW cs N).map (mn · m)).sum:=by
  unfold fewW
  rw [map_map]
  exact (bq' ((aU' cs N).map _)).symm
 rw [e,show ((k:Int)+1 - 1)=k by omega,h2]
 simp [h1]
theorem oX' (x:Int) (l:List Int):(l.map D.int).any (λd=>deq d (.int x))=decide (x∈l):=by
 induction l with
 | nil=>rfl
 | cons y l ih =>
  rw [map_cons,any_cons,ih]
  by_cases e:x=y
  ·simp [e,deq]
  ·have:¬ y=x:=λz=>e z.symm
   simp [e,this,deq]
theorem jo' (neg:Bool) (x:Int) (l:List Int):inF neg (.int x) (.lst (l.map D.int))=some (.bl (if neg then !inN l x else inN l x)):=by
 unfold inF seqI
 dsimp only
 rw [if_pos (by simp [dep]),oX']
 rfl
theorem at_c {cs:List Int}{x:Int} (h0:0<=x) (h1:x < cs.length):atI (cs.map D.int) x=some (.int (cAt cs x)):=by
 obtain ⟨j,rfl⟩:∃ j:Nat,x=j:=⟨x.toNat,by omega⟩
 rw [cX',getElem?_map]
 unfold cAt
 rw [toNat_natCast,getD_eq_getElem?_getD,getElem?_eq_getElem (by omega)]
 rfl
theorem lN' {ss:List (Int×Int)}{cs:List Int}{a:Int}{l:List Int}{k:Nat} (hb:∀ p∈ss,SOk p) (hl:ss.length<=100) (hN:nums ss=a::l) (gd:Gd cs.length (a::l)) (hn:cs.length<=100) (nn:∀ x∈cs,0<=x) (hk:k<=900) :
  cvF dB' [.lst (ss.map prD),.int ((k:Int)+1),.lst (cs.map D.int),fewD cs (a::l) k]=some (.bl true):=by
 have j:=h9' (cs:=cs) gd.1 k
 have ru:=kb' gd j
 have rl:=oW' (cs:=cs) gd.1 k
 have ql:=m4' gd k
 have jG:=m6' nn (a::l) k
 have has:=(j.has (Int.le_refl a)).2
 have gl:=lM' gd (by omega)
 have n1:=dF' hb hl (by rw [hN];omega)
 rw [hN] at n1
 have rs:=f6' (n:=cs.length) (by omega) (Int.le_refl _) ru
 have hu:=ru.up
 have hm:∀ x∈(rowF cs (a::l) k).flatMap span,0<=x/\x < (cs.length:Int):=λx hx=>by have:=hu.2 x hx;omega
 have aM:((rowF cs (a::l) k).flatMap span).length<=100:=by
  have:=fG' (n:=cs.length) (a:=0) hu.1 hm
  omega
 have rB:=qe' cs.length (rowF cs (a::l) k) (by omega)
 rw [jn' ru] at rB
 have mF:(rowF cs (a::l) k).length<=100:=by
  rw [j.len]
  have h1:=j.perm.length_eq
  have h2:=ia' gd (by omega)
  rw [length_append] at h1
  omega
 have nr:=m5' ru
 have n2:=dF' rs mF (by rw [nr];omega)
 rw [nr] at n2
 have g1:=ji' (l:=a::l) (by omega)
 have gf:=ia' gd (by omega)
 have mk:=j9' cs (gapsL (a::l)) ((k:Int)+1) ((fewW cs (a::l)).drop k).sum (maxI 0 ((fewW cs (a::l)).drop k)) (by omega) (by omega) (by omega)
 rw [jG] at mk
 unfold fewD
 clear jG j nn hN nr rs
 generalize rowF cs (a::l) k=row at *
 generalize row.flatMap span=H at *
 generalize ((fewW cs (a::l)).drop k).sum=w at *
 generalize maxI 0 ((fewW cs (a::l)).drop k)=mk' at *
 generalize gapsL (a::l)=G at *
 generalize a::l=N at *
 refine cI' ?_
 refine cA' rfl λKE hE _=>?_
 rw [eX']
 refine ah' λK hK _=>⟨_,_,rfl,hK _ ?_⟩
 refine ah' λK hK _=>?_
 simp
 rw [if_neg (by omega)]
 rw [ai' rB]
 simp
 refine hK _ ?_
 refine ah' λK hK _=>e8' rfl n1 (show 5 < 8 by decide) (hK _ ?_)
 refine ah' λK hK _=>e8' rfl n2 (show 6 < 8 by decide) (hK _ ?_)
 dsimp only [List.set]
 refine ah' λK hK _=>?_
 simp
 refine bd' N D.int (λ_=>true) (λx=>.bl (!inN H x)) ?_
 simp [jo']
 have fo:N.filter (λ_=>true)=N:=filter_eq_self.mpr (by simp)
 have na:(N.any λx=>!inN H x)=false:=by
  rw [List.any_eq_false]
  intro x hx
  simp [inN,has x hx]
 rw [fo,ai' mV',na]
 simp
 refine ⟨by omega,hK _ ?_⟩
 refine ah' λK hK _=>?_
 simp
 refine bd' H D.int (λx=>!inN N x) (λx=>.int (cAt cs x)) ?_
 simp [jo']
 refine ⟨by omega,λx hx=>?_,?_⟩
 ·intro _
  rw [ai' (at_c (hm x hx).1 (hm x hx).2)]
  exact ⟨rfl,_,rfl⟩
 have e7:(H.filter λx=>!inN N x).map (λx=>D.int (cAt cs x))=((H.filter λx=>!inN N x).map (cAt cs)).map D.int:=by rw [map_map];rfl
 rw [e7,ai' (dU' _)]
 have e8:((H.filter λx=>!inN N x).map (cAt cs)).sum=w:=ql
 rw [e8]
 refine ⟨by simp,hK _ ?_⟩
 simp [deq,dep]
 rw [ai' g1]
 simp
 rw [ai' mk]
 exact hE _ _ ⟨_,rfl,rfl⟩
theorem dJ' {ss:List (Int×Int)} (hb:∀ p∈ss,SOk p) (hl:ss.length<=100):ckF bc' [.lst (ss.map prD)]=some (tabL (hadL (ss.flatMap span))):=by
 refine qh' ?_
 unfold bc'
 refine bu' rfl ?_
 rw [d0']
 refine ah' λK hK _=>?_
 simp
 refine hK _ ?_
 refine aE' (λae=>∃ x y z,ae=[some (.val (.lst (ss.map prD))),some (.dic (tabL (hadL (ss.flatMap span)))),x,y,z]) (λK hK _=>?_) ?_
 ·simp
  refine bf' (J:=λi Z=>∃ x y z,Z=[some (.val (.lst (ss.map prD))),some (.dic (tabL (hadL ((ss.take i).flatMap span)))),x,y,z]) ⟨none,none,none,rfl⟩ ?_ ?_
  ·rintro i d Z hd ⟨x,y,z,rfl⟩
   rw [getElem?_map,map_eq_some_iff] at hd
   obtain ⟨p,e1,rfl⟩:=hd
   have ok:=hb p (mem_of_getElem? e1)
   obtain ⟨h1,h2,h3,h4⟩:=id ok
   have tk:(ss.take (i+1)).flatMap span=(ss.take i).flatMap span++span p:=by
    rw [take_add_one,e1,List.flatMap_append]
    simp
   have fl:=e5' (ss:=ss.take i) λq hq=>hb q (mem_of_mem_take hq)
   have tl:(ss.take i).length<=100:=by rw [length_take];omega
   have sl:=e4' ok
   rw [tk]
   generalize (ss.take i).flatMap span=A at *
   simp [prD]
   rw [e2']
   refine ⟨⟨⟨by omega,by omega⟩,by omega,by omega⟩,?_⟩
   refine bf' (J:=λj Z=>∃ z,Z=[some (.val (.lst (ss.map prD))),some (.dic (tabL (hadL (A++(span p).take j)))),some (.val (.int p.1)),some (.val (.int p.2)),z]) ⟨z,by simp⟩ ?_ ?_
   ·rintro j d Z hd ⟨z,rfl⟩
    rw [getElem?_map,map_eq_some_iff] at hd
    obtain ⟨n,e2,rfl⟩:=hd
    have t2:A++(span p).take (j+1)=A++(span p).take j++[n]:=by
     rw [take_add_one,e2]
     simp
    have ln:=(eu' (A++(span p).take j)).2.1
    rw [length_append,length_take] at ln
    simp
    rw [oU' n (by omega),t2,h6']
   ·rintro Z ⟨z,rfl⟩
    rw [length_map,take_length]
    exact ⟨_,_,_,rfl⟩
  ·rintro Z ⟨x,y,z,rfl⟩
   refine hK _ ⟨x,y,z,?_⟩
   rw [length_map,take_length]
 ·rintro ae ⟨x,y,z,rfl⟩
  simp [flR,fin]
theorem f3' (xs:List D) (x:D):deq (.lst (xs++[x])) (.lst [])=false:=by
 cases xs<;>simp [deq,deqA]
theorem jp' (xs:List D) (y v:D):stF (-1) v (xs++[y])=some (xs++[v]):=by
 unfold stF ixN
 simp
 refine ⟨by omega,?_⟩
 rw [show (-1+((xs.length:Int)+1)).toNat=xs.length by omega]
 simp
theorem m7' {ss:List (Int×Int)}{a:Int}{l:List Int} (hb:∀ p∈ss,SOk p) (hl:ss.length<=100) (hN:nums ss=a::l) (few:(a::l).length<=1000):cvF cd' [.lst (ss.map prD)]=some (.lst ((partsF a a l).map prD)):=by
 have uY:=dJ' hb hl
 obtain ⟨h1,h2,h3,_⟩:=eu' (ss.flatMap span)
 have e0:setI (hadL (ss.flatMap span))=a::l:=by
  rw [← hN]
  exact b7' (bt' _) (bt' _) λx=>by unfold nums;rw [aQ',aQ',h3]
 have ln:(hadL (ss.flatMap span)).length<=1000:=by
  have:=dW' _ (a::l) h1 λx hx=>by rw [← e0,aQ'];exact hx
  omega
 have srt:sortKIF (tabL (hadL (ss.flatMap span)))=some ((a::l).map D.int):=by
  unfold sortKIF
  rw [oV',e0,if_pos ⟨by unfold tabL;rw [length_map];exact ln,h1⟩]
 refine cI' ?_
 refine cA' rfl λKE hE _=>?_
 rw [c4']
 refine ah' λK hK _=>?_
 simp
 refine hK _ ?_
 refine ah' λK hK _=>?_
 simp
 rw [ai' uY,ai' srt]
 simp
 refine bf' (J:=λi Z=>(i=0/\Z=[some (.val (.lst (ss.map prD))),some (.own []),none])\/∃ j aE lo b x,i=j+1/\aE.length<=j/\partsF a a l=aE++partsF lo b (l.drop j)/\Z=[some (.val (.lst (ss.map prD))),some (.own (aE.map prD++[prD (lo,b)])),x]) (.inl ⟨rfl,rfl⟩) ?_ ?_
 ·rintro i d Z hd (⟨rfl,rfl⟩ | ⟨j,aE,lo,b,x,rfl,rl,e,rfl⟩)
  ·simp at hd
   subst hd
   simp [isMut,R.mut,DL.mg',dep]
   exact ⟨by simp [depA],a,a,rfl,rfl⟩
  ·rw [getElem?_cons_succ,getElem?_map,map_eq_some_iff] at hd
   obtain ⟨n,e1,rfl⟩:=hd
   obtain ⟨hi,e2⟩:=List.getElem?_eq_some_iff.mp e1
   rw [drop_eq_getElem_cons hi,e2,partsF] at e
   refine ⟨(),_,rfl,?_⟩
   show wp _ [some (.val (.lst (ss.map prD))),some (.own (aE.map prD++[prD (lo,b)])),some (.val (.int n))] _
   rw [length_cons] at few
   generalize hxs:aE.map prD=xs at *
   have d0:depA []<=99:=by simp [depA]
   have cond:wp (andT (tst (cmpN true 1 (frz (lstA nilA)))) (tst (op2 (eqF false) (op2 ixF (atN 1 (un1 negI (ret (.int 1)))) (ret (.int 1))) (op2 subI (nm 2) (ret (.int 1)))))) [some (.val (.lst (ss.map prD))),some (.own (xs++[prD (lo,b)])),some (.val (.int n))] λk Z=>k=decide (b=n - 1)/\Z=[some (.val (.lst (ss.map prD))),some (.own (xs++[prD (lo,b)])),some (.val (.int n))]:=by
    generalize ss.map prD=vH
    simp [isMut,R.mut,un1,negI,f3',dep,cB',prD,d0]
    exact Bool.eq_iff_iff.mpr (by simp)
   rw [lw']
   refine cond.mono ?_
   rintro k Z ⟨rfl,rfl⟩
   by_cases c:b=n - 1
   ·rw [if_pos c] at e
    rw [if_pos (by simpa using c)]
    have over:wp (stS 1 (un1 negI (ret (.int 1))) (tupA (consA (op2 ixF (atN 1 (un1 negI (ret (.int 1)))) (ret (.int 0))) (consA (nm 2) nilA)))) [some (.val (.lst (ss.map prD))),some (.own (xs++[prD (lo,b)])),some (.val (.int n))] λf Z=>f=.nx/\Z=[some (.val (.lst (ss.map prD))),some (.own (xs++[prD (lo,n)])),some (.val (.int n))]:=by
     generalize ss.map prD=vH
     simp [isMut,R.mut,un1,negI,cB',prD,jp']
    refine over.mono ?_
    rintro f Z ⟨rfl,rfl⟩
    exact .inr ⟨j+1,aE,lo,n,_,rfl,by omega,e,by rw [hxs]⟩
   ·rw [if_neg c] at e
    rw [if_neg (by simpa using c)]
    have xl:xs.length=aE.length:=by rw [← hxs,length_map]
    have jl:xs.length<=1000:=by omega
    have app:wp (appS 1 (tupA (consA (nm 2) (consA (nm 2) nilA)))) [some (.val (.lst (ss.map prD))),some (.own (xs++[prD (lo,b)])),some (.val (.int n))] λf Z=>f=.nx/\Z=[some (.val (.lst (ss.map prD))),some (.own (xs++[prD (lo,b)]++[prD (n,n)])),some (.val (.int n))]:=by
     generalize ss.map prD=vH
     simp [isMut,R.mut,prD]
     unfold appF
     rw [if_pos (by simp [lim];omega)]
     simp
    refine app.mono ?_
    rintro f Z ⟨rfl,rfl⟩
    refine .inr ⟨j+1,aE++[(lo,b)],n,n,some (.val (.int n)),rfl,by simp;omega,by rw [e];simp,?_⟩
    rw [map_append,hxs]
    rfl
 ·rintro Z (⟨h,_⟩ | ⟨j,aE,lo,b,x,h,rl,e,rfl⟩)
  ·simp at h
  ·simp at h
   subst h
   rw [drop_length,partsF] at e
   refine hK _ ?_
   simp
   refine hE _ _ ⟨_,rfl,?_⟩
   rw [e]
   simp
theorem eE' {ss row:List (Int×Int)}{cs:List Int}{a:Int}{l:List Int} (hb:∀ p∈ss,SOk p) (hl:ss.length<=100) (hN:nums ss=a::l) (ru:RowUp cs.length (-1) row) (mF:row.length<=100) (hn:cs.length<=100) :
  cvF aK' [.lst (ss.map prD),.lst (row.map prD),.lst (cs.map D.int)]=some (.int (sumN (inN (a::l)) (cAt cs) (row.flatMap span))):=by
 have t1:=dJ' hb hl
 have t2:=dJ' (f6' (n:=cs.length) (by omega) (Int.le_refl _) ru) mF
 have hu:=ru.up
 have hm:∀ x∈row.flatMap span,0<=x/\x < (cs.length:Int):=λx hx=>by have:=hu.2 x hx;omega
 have aM:(row.flatMap span).length<=100:=by
  have:=fG' (n:=cs.length) (a:=0) hu.1 hm
  omega
 have nd:(row.flatMap span).Nodup:=hu.1.imp λh e=>by rw [e] at h;omega
 rw [(eu' (row.flatMap span)).2.2.2 nd] at t2
 have uZ:∀ x,decide (x∈hadL (ss.flatMap span))=inN (a::l) x:=λx=>by
  unfold inN
  rw [← hN]
  unfold nums
  simp only [(eu' (ss.flatMap span)).2.2.1 x,aQ']
 clear hu nd ru hb
 generalize row.flatMap span=H at *
 generalize hadL (ss.flatMap span)=T at *
 generalize a::l=N at *
 refine cI' ?_
 unfold aK'
 refine bu' rfl ?_
 rw [b8']
 refine ah' λK hK _=>?_
 simp
 rw [ai' t1]
 refine ⟨by simp,hK _ ?_⟩
 simp [flR]
 refine bd' H D.int (λx=>!inN N x) (λx=>.int (cAt cs x)) ?_
 simp
 rw [ai' t2,m3']
 simp [qi',uZ]
 refine ⟨by omega,λx hx=>?_,?_⟩
 ·intro _
  rw [ai' (at_c (hm x hx).1 (hm x hx).2)]
  exact ⟨rfl,_,rfl⟩
 have e7:(H.filter λx=>!inN N x).map (λx=>D.int (cAt cs x))=((H.filter λx=>!inN N x).map (cAt cs)).map D.int:=by rw [map_map];rfl
 rw [e7,ai' (dU' _)]
 simp [fin,sumN]
@[simp] theorem kc' {α:Type}{a b c d:α}{ds:List α}:atI (a::b::c::d::ds) 3=some d:=by
 rw [show (3:Int)=((3:Nat):Int) from rfl,DL.cX'];rfl
@[simp] theorem qP' {α:Type}{a b c d e:α}{ds:List α}:atI (a::b::c::d::e::ds) 4=some e:=by
 rw [show (4:Int)=((4:Nat):Int) from rfl,DL.cX'];rfl
theorem m8' {ay:D->M Unit}{ts:M Bool}{el:M D}{it:M (List D)}{Z:Gm}{QL:List D->Gm->Prop} (J:Nat->List D->Gm->Prop)
  (h:wp it Z λds ae=>ds.length<=lim/\J 0 [] ae/\(∀ (i:Nat) d am a ao,ds[i]?=some d->J i am ao->wp (ay d) (a::ao) λ_ aQ=>wp ts aQ λb aY=>b=true/\wp el aY λx fL=>∃ a' fM,fL=a'::fM/\J (i+1) (am++[x]) fM)/\∀ am ao,J ds.length am ao->QL am ao):wp (compO 1 it ay ts el) Z QL:=by
 unfold compO
 rw [aB']
 refine h.mono λds ae ⟨hl,h0,hs,hq⟩=>?_
 rw [if_pos hl]
 have key:∀ (es:List D) (i:Nat) (am:List D) (a:Option R) (ao:Gm),ds.drop i=es->i<=ds.length->J i am ao->∃ r a' cE,compM ay ts el es (a::ao)=some (r,a'::cE)/\J ds.length (am++r) cE:=by
  intro es
  induction es with
  | nil =>
   intro i am a ao hd hi hj
   have:i=ds.length:=by
    have:=List.drop_eq_nil_iff.mp hd
    omega
   subst this
   exact ⟨[],a,ao,rfl,by simpa using hj⟩
  | cons d es ih =>
   intro i am a ao hd hi hj
   have bt:i < ds.length:=by
    rcases lt_or_ge i ds.length with z | z
    ·exact z
    ·rw [drop_eq_nil_of_le z] at hd;cases hd
   have e1:ds[i]?=some d:=by
    have:=drop_eq_getElem_cons bt
    rw [hd] at this
    cases this
    exact getElem?_eq_getElem bt
   have e2:ds.drop (i+1)=es:=by
    have:=drop_eq_getElem_cons bt
    rw [hd] at this
    injection this with _ q
    exact q.symm
   obtain ⟨_,aQ,g1,b,aY,g2,rfl,x,fL,g3,a',fM,rfl,j0⟩:=hs i d am a ao e1 hj
   obtain ⟨r,u0,cE,g4,qm⟩:=ih (i+1) (am++[x]) a' fM e2 bt j0
   refine ⟨x::r,u0,cE,?_,by simpa using qm⟩
   rw [compM]
   unfold bnd
   rw [g1]
   dsimp only
   rw [g2]
   dsimp only
   rw [if_pos rfl]
   rw [g3]
   dsimp only
   rw [g4]
   rfl
 obtain ⟨r,a',cE,e,hj⟩:=key ds 0 [] none ae rfl (zero_le _) h0
 refine ⟨r,cE,?_,hq r cE (by simpa using hj)⟩
 have e':compM ay ts el ds (replicate 1 none++ae)=some (r,a'::cE):=e
 unfold inC
 rw [e']
 rfl
theorem lO' {c:List D}{Q:R->List D->Prop} (hc:PotOk c) (k:∀ (cs:List Int) c',1<=cs.length->cs.length<=100->(∀ x∈cs,0<=x)->PotOk c'->Q (.own (cs.map D.int)) c'):wpB bS' c [] Q:=by
 refine er' rfl λKE hE _=>?_
 rw [cK']
 refine aE' (λae=>∃ c n,PotOk c/\1<=n/\n<=100/\ae=[some (.bor c),some (.val (.int n)),none]) (λK hK _=>?_) ?_
 ·simp [isMut,R.mut]
  refine aP' hc (by omega) (by omega) λa c a1 a2 hc=>?_
  simp [isMut,R.mut]
  refine aP' hc (by omega) (by omega) λb c b1 b2 hc=>?_
  simp [isMut,R.mut]
  refine aP' hc (by omega) (by omega) λi c i1 i2 hc=>?_
  have:i=0\/i=1\/i=2\/i=3:=by omega
  rcases this with rfl | rfl | rfl | rfl<;>simp [kc']<;>exact hK _ ⟨c,_,hc,by omega,by omega,rfl⟩
 rintro ae ⟨c,n,hc,n1,n2,rfl⟩
 refine aE' (λae=>∃ c t,PotOk c/\1<=t/\t<=10 ^ 56/\ae=[some (.bor c),some (.val (.int n)),some (.val (.int t))]) (λK hK _=>?_) ?_
 ·simp [isMut,R.mut]
  refine aP' hc (by omega) (by omega) λi c i1 i2 hc=>?_
  have:i=0\/i=1\/i=2\/i=3:=by omega
  rcases this with rfl | rfl | rfl | rfl<;>simp [kc']<;>exact hK _ ⟨c,_,hc,by omega,by omega,rfl⟩
 rintro ae ⟨c,t,hc,t1,t2,rfl⟩
 simp
 have it:wp (fn1 rngI1 (consA (nm 1) nilA)) [some (.bor c),some (.val (.int n)),some (.val (.int t))] λds ae=>ds=rngD 0 n.toNat/\ae=[some (.bor c),some (.val (.int n)),some (.val (.int t))]:=by
  simp
  omega
 have ln:(rngD 0 n.toNat).length=n.toNat:=by unfold rngD;simp
 refine m8' (λi am Z=>∃ (c:List D) (xs:List Int),PotOk c/\xs.length=i/\(∀ x∈xs,0<=x)/\am=xs.map D.int/\Z=[some (.bor c),some (.val (.int n)),some (.val (.int t))]) (it.mono ?_)
 rintro ds ae ⟨rfl,rfl⟩
 refine ⟨by rw [ln];unfold lim;omega,⟨c,[],hc,rfl,by simp,rfl,rfl⟩,?_,?_⟩
 ·rintro i d am a ao hd ⟨c,xs,hc,hi,h0,rfl,rfl⟩
  refine ⟨(),_,rfl,?_⟩
  show wp _ [some (.val d),some (.bor c),some (.val (.int n)),some (.val (.int t))] _
  simp [isMut,R.mut]
  refine aP' hc (by omega) (by omega) λa c a1 a2 hc=>?_
  simp [isMut,R.mut]
  refine aP' hc (by omega) (by omega) λb c b1 b2 hc=>?_
  simp
  refine ⟨by omega,_,_,⟨rfl,rfl⟩,c,hc,xs++[a*b],by simp [hi],λx hx=>?_,by simp,rfl⟩
  rcases mem_append.mp hx with z | z
  ·exact h0 x z
  ·rw [mem_singleton.mp z]
   exact Int.mul_nonneg a1 b1
 ·rintro am ao ⟨c,xs,hc,hi,h0,rfl,rfl⟩
  rw [ln] at hi
  exact hE _ _ _ ⟨_,rfl⟩ (k xs c (by omega) (by omega) h0 hc)
def StOk (n:Int) (p:Int×Int):Prop:=0<=p.1/\p.1<=p.2/\p.2 < n
theorem ic' {c:List D}{n:Int}{Q:R->List D->Prop} (hc:PotOk c) (n1:1<=n) (n2:n<=100) (k:∀ (ss:List (Int×Int)) c',1<=ss.length->ss.length<=12->(∀ p∈ss,StOk n p)->PotOk c'->Q (.val (.lst (ss.map prD))) c'):wpB bk' c [.int n] Q:=by
 refine er' rfl λKE hE _=>?_
 rw [bR']
 refine ah' λK hK _=>?_
 simp
 refine hK _ ?_
 refine ah' λK hK _=>?_
 simp [isMut,R.mut]
 refine aP' hc (by omega) (by omega) λm c m1 m2 hc=>?_
 simp
 refine ⟨by omega,?_⟩
 refine bf' (J:=λi Z=>∃ (c:List D) (ss:List (Int×Int)) (x y z:Option R),PotOk c/\ss.length=i/\(∀ p∈ss,StOk n p)/\Z=[some (.bor c),some (.val (.int n)),some (.own (ss.map prD)),x,y,z]) ⟨c,[],none,none,none,hc,rfl,by simp,rfl⟩ ?_ ?_
 ·rintro i d Z hd ⟨c,ss,x,y,z,hc,hi,hs,rfl⟩
  have il:i < 12:=by
   have:=List.getElem?_eq_some_iff.mp hd
   obtain ⟨h,_⟩:=this
   unfold rngD at h
   simp at h
   omega
  refine ⟨(),_,rfl,?_⟩
  show wp _ [some (.bor c),some (.val (.int n)),some (.own (ss.map prD)),some (.val d),y,z] _
  refine aE' (λae=>∃ c a,PotOk c/\0<=a/\a < n/\ae=[some (.bor c),some (.val (.int n)),some (.own (ss.map prD)),some (.val d),some (.val (.int a)),z]) (λK hK _=>?_) ?_
  ·simp [isMut,R.mut]
   refine aP' hc (by omega) (by omega) λa c a1 a2 hc=>?_
   simp
   exact hK _ ⟨c,a,hc,a1,a2,rfl⟩
  rintro ae ⟨c,a,hc,a1,a2,rfl⟩
  refine aE' (λae=>∃ c a,PotOk c/\0<=a/\a < n/\ae=[some (.bor c),some (.val (.int n)),some (.own (ss.map prD)),some (.val d),some (.val (.int a)),z]) (λK hK _=>?_) ?_
  ·rcases List.eq_nil_or_concat ss with rfl | ⟨qo,p,rfl⟩
   ·simp [isMut,R.mut,DL.mg',dep,depA]
    exact hK _ ⟨c,a,hc,a1,a2,rfl⟩
   ·have hp:=hs p (by simp)
    unfold StOk at hp
    have d0:depA []<=99:=by simp [depA]
    have e:(qo.concat p).map prD=qo.map prD++[prD p]:=by simp
    rw [e] at hK ⊢
    simp [isMut,R.mut,f3',dep,d0]
    refine aP' hc (by omega) (by omega) λb c b1 b2 hc=>?_
    simp
    by_cases b0:b=0
    ·simp [b0,isMut,R.mut,un1,negI,cB',prD]
     refine aP' hc (by omega) (by omega) λe c e1 e2 hc=>?_
     simp
     exact hK _ ⟨c,_,hc,by omega,by omega,rfl⟩
    ·simp [b0]
     exact hK _ ⟨c,a,hc,a1,a2,rfl⟩
  rintro ae ⟨c,a,hc,a1,a2,rfl⟩
  refine aE' (λae=>∃ c b,PotOk c/\a<=b/\b < n/\ae=[some (.bor c),some (.val (.int n)),some (.own (ss.map prD)),some (.val d),some (.val (.int a)),some (.val (.int b))]) (λK hK _=>?_) ?_
  ·simp [isMut,R.mut]
   refine aP' hc (by omega) (by omega) λe c e1 e2 hc=>?_
   simp [isMut,R.mut]
   refine aP' hc (by omega) (by omega) λb c b1 b2 hc=>?_
   have:b=0\/b=1\/b=2\/b=3\/b=4:=by omega
   rcases this with rfl | rfl | rfl | rfl | rfl<;>simp [kc',qP']<;>exact hK _ ⟨c,_,hc,by omega,by omega,rfl⟩
  rintro ae ⟨c,b,hc,b1,b2,rfl⟩
  simp [isMut,R.mut]
  refine ⟨by omega,c,hc,ss++[(a,b)],by simp [hi],λu v hx=>?_,rfl,by simp [prD]⟩
  rcases mem_append.mp hx with z | z
  ·exact hs _ z
  ·rw [mem_singleton.mp z]
   exact ⟨a1,b1,b2⟩
 ·rintro Z ⟨c,ss,x,y,z,hc,hi,hs,rfl⟩
  have ln:(rngD 0 (1+m).toNat).length=(1+m).toNat:=by unfold rngD;simp
  rw [ln] at hi
  refine hK _ ?_
  simp
  exact hE _ _ _ ⟨_,rfl⟩ (k ss c (by omega) (by omega) hs hc)
theorem lP' {c:List D}{a:Int}{l:List Int}{m:Int}{Q:R->List D->Prop} (hc:PotOk c) (up:Up (a::l)) (m1:1<=m) (pl:(partsF a a l).length<=1000)
  (k:∀ (row t u:List (Int×Int)) c',Jn a a l row t u->(row.length:Int)<=m->PotOk c'->Q (.val (.lst (row.map prD))) c'):wpB bT' c [.lst ((partsF a a l).map prD),.int m] Q:=by
 obtain ⟨h,ps,e⟩:=bU' a a l
 have k':∀ (row:List (Int×Int)) c',Jp a h ps row->(row.length:Int)<=m->PotOk c'->Q (.val (.lst (row.map prD))) c':=λrow c' j h1 h2=>by
  obtain ⟨t,u,j'⟩:=g0' a a h ps row up e j
  exact k row t u c' j' h1 h2
 rw [e] at pl ⊢
 rw [length_cons] at pl
 clear k e
 refine er' rfl λKE hE _=>?_
 rw [cL']
 refine ah' λK hK _=>?_
 simp
 refine hK _ ?_
 refine ah' λK hK _=>?_
 simp
 refine ⟨by omega,?_⟩
 have ln:(rngD 1 ps.length).length=ps.length:=by unfold rngD;simp
 refine bf' (J:=λi Z=>∃ (c:List D) (aE:List (Int×Int)) (lo hi:Int) (x:Option R),PotOk c/\(aE.length:Int)+1<=m/\aE.length<=i/\(∀ row,Jp lo hi (ps.drop i) row->Jp a h ps (aE++row))/\Z=[some (.bor c),some (.val (.lst (prD (a,h)::ps.map prD))),some (.val (.int m)),some (.own (aE.map prD++[prD (lo,hi)])),x]) ⟨c,[],a,h,none,hc,by simpa using m1,by simp,λrow j=>j,rfl⟩ ?_ ?_
 ·rintro i d Z hd ⟨c,aE,lo,hi,x,hc,rl,ri,j,rfl⟩
  obtain ⟨bP,e1⟩:=List.getElem?_eq_some_iff.mp hd
  have il:i < ps.length:=by rw [ln] at bP;exact bP
  have ed:d=.int (1+i):=by
   unfold rngD at hd
   rw [getElem?_map,List.getElem?_range il] at hd
   simpa using hd.symm
  subst ed
  obtain ⟨p,ep⟩:∃ p,ps[i]=p:=⟨_,rfl⟩
  rw [drop_eq_getElem_cons il,ep] at j
  have fU:atI (prD (a,h)::ps.map prD) (1+(i:Int))=some (prD p):=by
   rw [show (1+(i:Int))=((i+1:Nat):Int) by omega,cX',getElem?_cons_succ,getElem?_map,getElem?_eq_getElem il,ep]
   rfl
  refine ⟨(),_,rfl,?_⟩
  show wp _ [some (.bor c),some (.val (.lst (prD (a,h)::ps.map prD))),some (.val (.int m)),some (.own (aE.map prD++[prD (lo,hi)])),some (.val (.int (1+i)))] _
  generalize (1+(i:Int))=i1 at *
  have over:∀ c,PotOk c->wp (stS 3 (un1 negI (ret (.int 1))) (tupA (consA (op2 ixF (atN 3 (un1 negI (ret (.int 1)))) (ret (.int 0))) (consA (op2 ixF (op2 ixF (nm 1) (nm 4)) (ret (.int 1))) nilA)))) [some (.bor c),some (.val (.lst (prD (a,h)::ps.map prD))),some (.val (.int m)),some (.own (aE.map prD++[prD (lo,hi)])),some (.val (.int i1))] λf ao=>f=.nx/\ao=[some (.bor c),some (.val (.lst (prD (a,h)::ps.map prD))),some (.val (.int m)),some (.own (aE.map prD++[prD (lo,p.2)])),some (.val (.int i1))]:=λc hc=>by
   generalize prD (a,h)::ps.map prD=P at *
   simp [isMut,R.mut,un1,negI,cB',jp',fU,prD]
  have cond:wp (andT (tst (op2 ltI (lenN 3) (nm 2))) (tst (op2 (eqF false) (cbV 0 ap' (consA (ret (.int 2)) nilA)) (ret (.int 0))))) [some (.bor c),some (.val (.lst (prD (a,h)::ps.map prD))),some (.val (.int m)),some (.own (aE.map prD++[prD (lo,hi)])),some (.val (.int i1))] λb ao=>∃ c,PotOk c/\(b=true->(aE.length:Int)+2<=m)/\ao=[some (.bor c),some (.val (.lst (prD (a,h)::ps.map prD))),some (.val (.int m)),some (.own (aE.map prD++[prD (lo,hi)])),some (.val (.int i1))]:=by
   by_cases c1:(aE.length:Int)+1 < m
   ·simp [isMut,R.mut,c1]
    refine aP' hc (by omega) (by omega) λb c b1 b2 hc=>?_
    simp [dep]
    exact ⟨hc,λ_=>by omega⟩
   ·simp [c1]
    exact hc
  rw [lw']
  refine cond.mono ?_
  rintro b ao ⟨c,hc,hb,rfl⟩
  cases b with
  | false =>
   rw [if_neg (by decide)]
   refine (over c hc).mono ?_
   rintro f ao ⟨rfl,rfl⟩
   exact ⟨c,aE,lo,p.2,_,hc,rl,by omega,λrow q=>j row (Jp.over q),rfl⟩
  | true =>
   rw [if_pos rfl]
   have app:wp (appS 3 (op2 ixF (nm 1) (nm 4))) [some (.bor c),some (.val (.lst (prD (a,h)::ps.map prD))),some (.val (.int m)),some (.own (aE.map prD++[prD (lo,hi)])),some (.val (.int i1))] λf ao=>f=.nx/\ao=[some (.bor c),some (.val (.lst (prD (a,h)::ps.map prD))),some (.val (.int m)),some (.own (aE.map prD++[prD (lo,hi)]++[prD p])),some (.val (.int i1))]:=by
    generalize prD (a,h)::ps.map prD=P at *
    simp [isMut,R.mut,fU]
    omega
   refine app.mono ?_
   rintro f ao ⟨rfl,rfl⟩
   refine ⟨c,aE++[(lo,hi)],p.1,p.2,some (.val (.int i1)),hc,?_,?_,λrow q=>?_,?_⟩
   ·have:=hb rfl
    simp
    omega
   ·simp
    omega
   ·have:=j _ (Jp.cut q)
    simpa using this
   ·simp
 ·rintro Z ⟨c,aE,lo,hi,x,hc,rl,ri,j,rfl⟩
  rw [ln,drop_length] at j
  refine hK _ ?_
  simp
  refine hE _ _ _ ⟨_,rfl⟩ ?_
  have:=k' (aE++[(lo,hi)]) c (j _ Jp.nil) (by simp;omega) hc
  simpa using this
theorem lQ' {cs:List Int}{a:Int}{l:List Int}{row t u:List (Int×Int)}{k:Nat} (gd:Gd cs.length (a::l)) (nn:∀ x∈cs,0<=x) (j:Jn a a l row t u) (hl:(row.length:Int)<=k+1):((fewW cs (a::l)).drop k).sum<=sumN (inN (a::l)) (cAt cs) (row.flatMap span):=by
 rw [e9' gd j]
 refine dE' k (fewW cs (a::l)) (t.map (wt cs)) (u.map (wt cs)) (cY' _ _) (ib' nn _) ?_ ?_
 ·rw [← map_append]
  exact (j.perm.trans (aU' cs _).symm).map _
 ·rw [length_map]
  have:=j.len
  omega
theorem oY' (cs N:List Int):(fewW cs N).length=(gapsL N).length:=by
 unfold fewW
 rw [length_map]
 exact (aU' cs N).length_eq
theorem m9' {cs:List Int}{a:Int}{l:List Int} (gd:Gd cs.length (a::l)):sumN (inN (a::l)) (cAt cs) ([(a,(a::l).getLast (by simp))].flatMap span)=(fewW cs (a::l)).sum:=by
 rw [e9' gd (f4' a gd.1)]
 exact (bq' ((aU' cs (a::l)).map (wt cs))).symm
theorem f7':∀ l:List Int,(l.map λx=>2*x).sum=2*l.sum
 | []=>rfl
 | x::l=>by
  rw [map_cons,sum_cons,sum_cons,f7' l]
  omega
theorem qk' (cs:List Int) (g:Int×Int):wt (cs.map λx=>2*x) g=2*wt cs g:=by
 unfold wt cutL
 rw [length_map,← map_drop,← map_take,f7']
theorem oZ' (cs N:List Int) (k:Nat):((fewW (cs.map λx=>2*x) N).drop k).sum=2*((fewW cs N).drop k).sum:=by
 have e:fewW (cs.map λx=>2*x) N=(fewW cs N).map λx=>2*x:=by
  refine h4' ?_ (cY' _ _) (pairwise_map.mpr ((cY' cs N).imp λh=>by omega))
  have p1:(fewW (cs.map λx=>2*x) N).Perm ((gapsL N).map λg=>2*wt cs g):=by
   have:=(aU' (cs.map λx=>2*x) N).map (wt (cs.map λx=>2*x))
   rw [show (gapsL N).map (λg=>2*wt cs g)=(gapsL N).map (wt (cs.map λx=>2*x)) from map_congr_left λg _=>(qk' cs g).symm]
   exact this
  refine p1.trans ?_
  unfold fewW
  rw [map_map]
  exact ((aU' cs N).map λg=>2*wt cs g).symm
 rw [e,← map_drop,f7']
theorem gF' {ss ms:List (Int×Int)} (h:∀ x,x∈ss.flatMap span↔x∈ms.flatMap span):nums ms=nums ss:=by
 unfold nums
 exact b7' (bt' _) (bt' _) λx=>by rw [aQ',aQ',h]
theorem o0' {n:Int}{ss:List (Int×Int)} (h:∀ p∈ss,StOk n p):Gd n (nums ss):=by
 refine ⟨bt' _,λx hx=>?_⟩
 unfold nums at hx
 rw [aQ',mem_flatMap] at hx
 obtain ⟨p,hp,hx⟩:=hx
 have:=h p hp
 unfold StOk at this
 have:=aH'.mp hx
 omega
theorem o1' {n:Int}{ss:List (Int×Int)} (h:∀ p∈ss,StOk n p) (h1:1<=ss.length):∃ a l,nums ss=a::l:=by
 cases ss with
 | nil=>simp at h1
 | cons p ss =>
  have:p.1∈nums (p::ss):=by
   unfold nums
   rw [aQ',mem_flatMap]
   refine ⟨p,by simp,aH'.mpr ?_⟩
   have:=h p (by simp)
   unfold StOk at this
   omega
  cases e:nums (p::ss) with
  | nil=>rw [e] at this;cases this
  | cons a l=>exact ⟨a,l,rfl⟩
theorem ql' {n:Int} (hn:n<=100){p:Int×Int} (h:StOk n p):SOk p:=by
 unfold StOk at h
 exact ⟨by omega,by omega,by omega,by omega⟩
theorem lR' {a:Int}{l:List Int} (u:Up (a::l)):(partsF a a l).length=(gapsL (a::l)).length+1:=(e7' a u).len
theorem lS' {p:Int×Int}{ss:List (Int×Int)} (h:p.1<=p.2):∀ x,x∈(p::ss).flatMap span↔x∈(([(p.1,p.1)]++(p::ss).reverse)++(p::ss).take 2).flatMap span:=λx=>by
 rw [mem_flatMap,mem_flatMap]
 constructor
 ·rintro ⟨q,hq,hx⟩
  exact ⟨q,mem_append_left _ (mem_append_right _ (mem_reverse.mpr hq)),hx⟩
 ·rintro ⟨q,hq,hx⟩
  rcases mem_append.mp hq with z | z
  ·rcases mem_append.mp z with z | z
   ·rw [mem_singleton.mp z] at hx
    refine ⟨p,by simp,?_⟩
    have:=aH'.mp hx
    dsimp only at this
    exact aH'.mpr ⟨by omega,by omega⟩
   ·exact ⟨q,mem_reverse.mp z,hx⟩
  ·exact ⟨q,mem_of_mem_take z,hx⟩
theorem na' (ss:List (Int×Int)):∀ x,x∈ss.flatMap span↔x∈ss.reverse.flatMap span:=λx=>by simp [mem_flatMap]
def fewS (cs N:List Int) (k:Nat):Int:=((fewW cs N).drop k).sum
theorem ev' (cs N:List Int) (k:Nat):ixF (fewD cs N k) (.int 0)=some (.int (fewS cs N k)):=by simp [fewD,fewS]
theorem qQ' (cs N:List Int) (k:Nat):ixF (fewD cs N k) (.int 1)=some (.lst ((rowF cs N k).map prD)):=by simp [fewD]
theorem qR' (cs N:List Int) (k:Nat):ixF (fewD cs N k) (.int 2)=some (.int (maxI 0 ((fewW cs N).drop k))):=by simp [fewD]
theorem o2' (cs N:List Int) (k:Nat):D.tup [.int (fewS cs N k),.lst ((rowF cs N k).map prD),.int (maxI 0 ((fewW cs N).drop k))]=fewD cs N k:=rfl
noncomputable def gm (S c:List D) (d:D) (cs:List Int) (ss P:List (Int×Int)) (T:List D) (r:Gm):Gm:=some (.val (.lst S))::some (.own c)::some (.val d)::some (.val (.lst (cs.map D.int)))::some (.val (.lst (ss.map prD)))::some (.val (.lst (P.map prD)))::some (.val (.lst T))::r
section
variable {S c:List D}{d:D}{cs:List Int}{ss P:List (Int×Int)}{T:List D}{r:Gm}{x:Option R}
@[simp high] theorem gm1:(gm S c d cs ss P T r)[1]?=some (some (.own c)):=rfl
@[simp high] theorem gm3:(gm S c d cs ss P T r)[3]?=some (some (.val (.lst (cs.map D.int)))):=rfl
@[simp high] theorem gm4:(gm S c d cs ss P T r)[4]?=some (some (.val (.lst (ss.map prD)))):=rfl
@[simp high] theorem gm5:(gm S c d cs ss P T r)[5]?=some (some (.val (.lst (P.map prD)))):=rfl
@[simp high] theorem gm6:(gm S c d cs ss P T r)[6]?=some (some (.val (.lst T))):=rfl
@[simp high] theorem gm7:(gm S c d cs ss P T r)[7]?=r[0]?:=rfl
@[simp high] theorem gm8:(gm S c d cs ss P T r)[8]?=r[1]?:=rfl
@[simp high] theorem gm9:(gm S c d cs ss P T r)[9]?=r[2]?:=rfl
@[simp high] theorem gm10:(gm S c d cs ss P T r)[10]?=r[3]?:=rfl
@[simp high] theorem gm11:(gm S c d cs ss P T r)[11]?=r[4]?:=rfl
@[simp] theorem gmS1 {c':List D}:(gm S c d cs ss P T r).set 1 (some (.own c'))=gm S c' d cs ss P T r:=rfl
@[simp] theorem gmS8:(gm S c d cs ss P T r).set 8 x=gm S c d cs ss P T (r.set 1 x):=rfl
@[simp] theorem gmS9:(gm S c d cs ss P T r).set 9 x=gm S c d cs ss P T (r.set 2 x):=rfl
@[simp] theorem gmS10:(gm S c d cs ss P T r).set 10 x=gm S c d cs ss P T (r.set 3 x):=rfl
@[simp] theorem gmS11:(gm S c d cs ss P T r).set 11 x=gm S c d cs ss P T (r.set 4 x):=rfl
theorem gmL:(gm S c d cs ss P T r).length=r.length+7:=rfl
@[simp] theorem gmB8:8 < (gm S c d cs ss P T r).length↔1 < r.length:=by rw [gmL];omega
@[simp] theorem gmB9:9 < (gm S c d cs ss P T r).length↔2 < r.length:=by rw [gmL];omega
@[simp] theorem gmB10:10 < (gm S c d cs ss P T r).length↔3 < r.length:=by rw [gmL];omega
@[simp] theorem gmB11:11 < (gm S c d cs ss P T r).length↔4 < r.length:=by rw [gmL];omega
end
theorem law_true (ns:List Int) (hl:ns.length<=63):∃ rs,dD' [.val (.lst (ns.map D.int))]=some (.val (.bl true),rs):=by
 have key:wpF dD' [.val (.lst (ns.map D.int))] λr _=>r=.val (.bl true):=by
  refine cA' rfl λKE hE _=>?_
  rw [jY']
  obtain ⟨c,e,hc⟩:=qd' ns
  refine ah' λK hK _=>?_
  simp
  rw [ai' e]
  refine ⟨by simp,hK _ ?_⟩
  clear hK e
  generalize ns.map D.int=S at *
  refine ah' λK hK hR=>?_
  simp
  refine bf' (J:=λi Z=>∃ c x2 x3 x4 x5 x6 x7 x8 x9 cG cn,PotOk c/\Z=[some (.val (.lst S)),some (.own c),x2,x3,x4,x5,x6,x7,x8,x9,cG,cn]) ⟨c,none,none,none,none,none,none,none,none,none,none,hc,rfl⟩ ?_ ?_
  ·rintro i d Z hd ⟨c,x2,x3,x4,x5,x6,x7,x8,x9,cG,cn,hc,rfl⟩
   refine ⟨(),_,rfl,?_⟩
   show wp _ [some (.val (.lst S)),some (.own c),some (.val d),x3,x4,x5,x6,x7,x8,x9,cG,cn] _
   refine aE' (λae=>∃ (c:List D) (cs:List Int),PotOk c/\1<=cs.length/\cs.length<=100/\(∀ x∈cs,0<=x)/\ae=[some (.val (.lst S)),some (.own c),some (.val d),some (.val (.lst (cs.map D.int))),x4,x5,x6,x7,x8,x9,cG,cn]) (λK hK _=>?_) ?_
   ·simp [isMut,R.mut]
    refine lO' hc λcs c h1 h2 h3 hc=>?_
    simp
    exact hK _ ⟨c,cs,hc,h1,h2,h3,rfl⟩
   rintro ae ⟨c,cs,hc,n1,n2,nn,rfl⟩
   refine aE' (λae=>∃ (c:List D) (ss:List (Int×Int)),PotOk c/\1<=ss.length/\ss.length<=12/\(∀ p∈ss,StOk cs.length p)/\ae=[some (.val (.lst S)),some (.own c),some (.val d),some (.val (.lst (cs.map D.int))),some (.val (.lst (ss.map prD))),x5,x6,x7,x8,x9,cG,cn]) (λK hK _=>?_) ?_
   ·simp [isMut,R.mut]
    refine ic' hc (by omega) (by omega) λss c h1 h2 h3 hc=>?_
    simp
    exact hK _ ⟨c,ss,hc,h1,h2,h3,rfl⟩
   rintro ae ⟨c,ss,hc,s1,s2,sk,rfl⟩
   have dF:ss.length<=100:=le_trans s2 (by decide)
   have nI:(cs.length:Int)<=100:=Int.ofNat_le.mpr n2
   obtain ⟨a,l,hN⟩:=o1' sk s1
   have gd:=o0' sk
   rw [hN] at gd
   have dA:∀ p∈ss,SOk p:=λp hp=>ql' nI (sk p hp)
   have gl:=lM' gd nI
   have gf:=ia' gd nI
   have pl:=lR' gd.1
   have few:∀ (ms:List (Int×Int)) (bH:List Int) (k:Nat),(∀ p∈ms,SOk p)->ms.length<=100->nums ms=a::l->cvF bp' [.lst (ms.map prD),.int ((k:Int)+1),.lst (bH.map D.int)]=some (fewD bH (a::l) k):=λms bH k h1 h2 h3=>by
    have:=qg' (cs:=bH) (k:=k) h1 h2 (by rw [h3];exact le_trans gl (by decide)) (by rw [h3];simp) (by rw [h3];exact gf)
    rw [h3] at this
    exact this
   refine ah' λK hK _=>?_
   simp
   rw [ai' (m7' dA dF hN (le_trans gl (by decide)))]
   refine ⟨by simp,hK _ ?_⟩
   obtain ⟨P,eP⟩:∃ P,P=partsF a a l:=⟨_,rfl⟩
   rw [← eP] at pl ⊢
   have qp:P.length<=64:=by rw [pl];exact gf
   refine aE' (λae=>ae=[some (.val (.lst S)),some (.own c),some (.val d),some (.val (.lst (cs.map D.int))),some (.val (.lst (ss.map prD))),some (.val (.lst (P.map prD))),some (.val (.lst ((range (P.length+1)).map (fewD cs (a::l))))),x7,x8,x9,cG,cn]) (λK hK _=>?_) ?_
   ·simp
    refine bd' (range (P.length+1)) (λk=>.int (1+(k:Int))) (λ_=>true) (fewD cs (a::l)) ?_
    simp
    refine ⟨⟨by omega,by omega⟩,?_,by omega,λk hk=>?_,?_⟩
    ·unfold rngD
     rw [show ((P.length:Int)+2).toNat - 1=P.length+1 by omega]
    ·rw [Int.add_comm 1,ai' (few ss cs k dA dF hN)]
     exact ⟨rfl,_,rfl⟩
    ·rw [filter_eq_self.mpr (by simp)]
     exact hK _ rfl
   rintro ae rfl
   obtain ⟨T,eT⟩:∃ T,T=(range (P.length+1)).map (fewD cs (a::l)):=⟨_,rfl⟩
   have tl:T.length=P.length+1:=by rw [eT];simp
   have hZ:∀ k:Nat,k<=P.length->atI T (k:Int)=some (fewD cs (a::l) k):=λk hk=>by
    rw [cX',eT,getElem?_map,List.getElem?_range (by omega)]
    rfl
   rw [← eT]
   clear eT
   refine aE' (λae=>∃ c x7 x8,PotOk c/\ae=gm S c d cs ss P T [x7,x8,x9,cG,cn]) (λK hK _=>?_) ?_
   ·simp
    refine ⟨by omega,?_⟩
    refine bf' (J:=λi ae=>∃ c x7 x8,PotOk c/\ae=gm S c d cs ss P T [x7,x8,x9,cG,cn]) ⟨c,x7,x8,hc,rfl⟩ ?_ ?_
    ·rintro k dk Z hk ⟨c,x7,x8,hc,rfl⟩
     obtain ⟨k1,ek⟩:k<=P.length/\dk=.int k:=by
      unfold rngD at hk
      rw [getElem?_map,map_eq_some_iff] at hk
      obtain ⟨k',h1,h2⟩:=hk
      obtain ⟨h3,h4⟩:=List.getElem?_eq_some_iff.mp h1
      simp at h3 h4
      subst h4
      exact ⟨by omega,by rw [← h2];simp⟩
     subst ek
     have tk:=hZ k k1
     refine ⟨(),_,rfl,?_⟩
     show wp _ (gm S c d cs ss P T [some (.val (.int k)),x8,x9,cG,cn]) _
     refine ah' λK hK _=>?_
     simp [tk,ev',qQ',qR']
     rw [o2']
     refine hK _ ?_
     refine ah' λK hK _=>?_
     simp
     rw [ai' (lN' dA dF hN gd n2 nn (le_trans k1 (le_trans qp (by decide))))]
     simp [isBF]
     refine hK _ ?_
     refine aE' (λae=>ae=gm S c d cs ss P T [some (.val (.int k)),some (.val (fewD cs (a::l) k)),x9,cG,cn]) (λK hK _=>?_) ?_
     ·by_cases k0:0 < k
      ·have cF:atI T ((k:Int) - 1)=some (fewD cs (a::l) (k - 1)):=by
        rw [show ((k:Int) - 1)=((k - 1:Nat):Int) by omega]
        exact hZ (k - 1) (by omega)
       have qq:¬ fewS cs (a::l) (k - 1) < fewS cs (a::l) k:=by
        have:=j8' (ib' nn (a::l)) (k - 1)
        rw [show k - 1+1=k by omega] at this;unfold fewS
        omega
       simp [k0,tk,cF,ev',qq]
       exact hK _ rfl
      ·simp [k0]
       exact hK _ rfl
     rintro ae rfl
     simp [isMut,R.mut]
     rw [eP]
     refine lP' hc gd.1 (by omega) (by rw [← eP];exact le_trans qp (by decide)) λrow t u c j jl hc=>?_
     rw [← eP]
     have ru:=kb' gd j
     have u4:row.length<=100:=by omega
     have u5:=lQ' (k:=k) gd nn j (by omega)
     have nd:=eE' (cs:=cs) dA dF hN ru u4 n2
     simp
     rw [ai' nd]
     simp [tk,ev']
     rw [if_neg (by unfold fewS;omega)]
     exact ⟨c,hc,_,_,rfl⟩
    ·rintro Z ⟨c,x7,x8,hc,rfl⟩
     exact hK _ ⟨c,x7,x8,hc,rfl⟩
   rintro ae ⟨c,x7,x8,hc,rfl⟩
   have ja:P≠[]:=λz=>by rw [z] at pl;simp at pl
   obtain ⟨h0,p0⟩:∃ h,atI (P.map prD) 0=some (prD (a,h)):=by
    obtain ⟨h,ps,e⟩:=bU' a a l
    rw [eP,e]
    exact ⟨h,by simp⟩
   obtain ⟨q,pq,q2⟩:∃ q,atI (P.map prD) (-1)=some (prD q)/\q.2=(a::l).getLast (by simp):=by
    have:=dI' a (l:=l) (a:=a) (by rw [← eP];exact ja)
    refine ⟨P.getLast ja,?_,by rw [← this];simp only [eP]⟩
    have e:P.map prD=P.dropLast.map prD++[prD (P.getLast ja)]:=by
     have:=congrArg (map prD) (List.dropLast_concat_getLast ja)
     rw [map_append] at this
     exact this.symm
    rw [e]
    exact cB' _ _
   have hu:=m9' gd
   have nh:=eE' (cs:=cs) dA dF hN (kb' gd (f4' a gd.1)) (by simp) n2
   rw [hu] at nh
   rw [← q2] at nh
   have u6:cvF aK' [.lst (ss.map prD),.lst [.tup [.int a,.int q.2]],.lst (cs.map D.int)]=some (.int (fewW cs (a::l)).sum):=nh
   refine ah' λK hK _=>?_
   simp [un1,negI,p0,pq,prD]
   refine hK _ ?_
   refine aE' (λae=>ae=gm S c d cs ss P T [x7,x8,some (.val (.lst [prD (a,q.2)])),cG,cn]) (λK hK _=>?_) ?_
   ·have t0:atI T 0=some (fewD cs (a::l) 0):=hZ 0 (zero_le _)
    have t1:atI T ((P.length:Int) - 1)=some (fewD cs (a::l) (P.length - 1)):=by
     rw [show ((P.length:Int) - 1)=((P.length - 1:Nat):Int) by omega]
     exact hZ _ (by omega)
    have z:fewS cs (a::l) (P.length - 1)=0:=by
     unfold fewS
     rw [drop_of_length_le (by rw [oY'];omega)]
     rfl
    have z0:fewS cs (a::l) 0=(fewW cs (a::l)).sum:=by
     unfold fewS
     rw [drop_zero]
    simp [t0,t1,ev',z,z0,dep,u6]
    exact hK _ rfl
   rintro ae rfl
   refine aE' (λae=>∃ (c:List D) (k:Nat),PotOk c/\k < P.length/\ae=gm S c d cs ss P T [x7,x8,some (.val (.lst [prD (a,q.2)])),some (.val (.int ((k:Int)+1))),cn]) (λK hK _=>?_) ?_
   ·simp [isMut,R.mut]
    refine aP' hc (by omega) (by omega) λk c k1 k2 hc=>?_
    simp
    refine hK _ ⟨c,k.toNat,hc,by omega,?_⟩
    rw [show (k.toNat:Int)+1=1+k by omega]
   rintro ae ⟨c,k,hc,hk,rfl⟩
   have tk:=hZ k (le_of_lt hk)
   have f2:=few ss (cs.map λx=>2*x) k dA dF hN
   have two:fewS (cs.map λx=>2*x) (a::l) k=2*fewS cs (a::l) k:=oZ' cs (a::l) k
   refine aE' (λae=>ae=gm S c d cs ss P T [x7,x8,some (.val (.lst [prD (a,q.2)])),some (.val (.int ((k:Int)+1))),cn]) (λK hK _=>?_) ?_
   ·simp
    refine bd' cs D.int (λ_=>true) (λx=>.int (2*x)) ?_
    simp
    rw [filter_eq_self.mpr (by simp),show cs.map (λx=>D.int (2*x))=(cs.map λx=>2*x).map D.int by rw [map_map];rfl,ai' f2]
    simp [ev',tk,two,dep]
    exact ⟨by omega,hK _ rfl⟩
   rintro ae rfl
   refine ah' λK hK _=>?_
   simp [un1,negI]
   refine hK _ ?_
   refine aE' (λae=>∃ (ms:List (Int×Int)),(∀ p∈ms,SOk p)/\ms.length<=100/\nums ms=a::l/\ae=gm S c d cs ss P T [x7,x8,some (.val (.lst [prD (a,q.2)])),some (.val (.int ((k:Int)+1))),some (.val (.lst (ms.map prD)))]) (λK hK _=>?_) ?_
   ·by_cases iA:(ss.length:Int) < 10
    ·obtain ⟨p,sr,es⟩:∃ p sr,ss=p::sr:=by
      cases ss with
      | nil=>simp at s1
      | cons p sr=>exact ⟨p,sr,rfl⟩
     have a0:atI (ss.map prD) 0=some (prD p):=by rw [es];simp
     have hp:=sk p (by rw [es];simp)
     have ms:=lS' (p:=p) (ss:=sr) hp.2.1
     rw [← es] at ms
     have em:(D.tup [.int p.1,.int p.1]::((ss.map prD).reverse++cutD (ss.map prD) none (some 2)))=(([(p.1,p.1)]++ss.reverse)++ss.take 2).map prD:=by
      rw [fI' _ (by omega),map_append,map_append,map_reverse,map_take]
      rfl
     have cl:(cutD (ss.map prD) none (some 2)).length<=12:=by
      rw [fI' _ (by omega),length_take,length_map]
      omega
     simp [iA,a0,prD]
     rw [em]
     refine ⟨by omega,by omega,hK _ ⟨_,λr hr=>?_,?_,?_,rfl⟩⟩
     ·rcases mem_append.mp hr with z | z
      ·rcases mem_append.mp z with z | z
       ·rw [mem_singleton.mp z]
        have:=dA p (by rw [es];simp)
        unfold SOk at this ⊢
        unfold StOk at hp
        dsimp only
        omega
       ·exact dA r (mem_reverse.mp z)
      ·exact dA r (mem_of_mem_take z)
     ·rw [length_append,length_append,length_reverse,length_take]
      simp
      omega
     ·rw [gF' ms]
      exact hN
    ·simp [iA]
     refine hK _ ⟨ss.reverse,λp hp=>dA p (mem_reverse.mp hp),by simp;omega,?_,?_⟩
     ·rw [gF' (na' ss)]
      exact hN
     ·rw [map_reverse]
   rintro ae ⟨ms,h1,h2,h3,rfl⟩
   simp
   rw [ai' (few ms cs k h1 h2 h3)]
   simp [ev',tk,dep]
   exact ⟨c,hc,_,_,_,_,_,_,_,_,_,_,rfl⟩
  ·rintro Z ⟨c,x2,x3,x4,x5,x6,x7,x8,x9,cG,cn,hc,rfl⟩
   refine hK _ ?_
   simp
   exact hE _ _ ⟨_,rfl,rfl⟩
 obtain ⟨r,aT,e,rfl⟩:=key
 exact ⟨aT,e⟩
end Own
namespace PySem.W.Fast
theorem tw3597481138926641757:True:=⟨⟩
theorem tw16347439204066302769:True:=⟨⟩
theorem tw9362141076961098047:True:=⟨⟩
theorem tw15699479826643550608:True:=⟨⟩
theorem tw2144458213410719369:True:=⟨⟩
theorem tw4675477142948181971:True:=⟨⟩
theorem tw7772136901404191685:True:=⟨⟩
theorem tw9524714375591570123:True:=⟨⟩
theorem tw155992479416992090:True:=⟨⟩
theorem tw4418859488463915944:True:=⟨⟩
theorem tw9566459807860757855:True:=⟨⟩
theorem tw7880257288863802076:True:=⟨⟩
theorem tw2594638694741820942:True:=⟨⟩
theorem tw107655765789496373:True:=⟨⟩
theorem tw12097137555383732065:True:=⟨⟩
theorem tw6055355637885007109:True:=⟨⟩
theorem tw8727082015768583825:True:=⟨⟩
theorem tw13275654316097180317:True:=⟨⟩
theorem tw6629167410423813663:True:=⟨⟩
theorem tw2402409237074306129:True:=⟨⟩
theorem tw4788709162556836600:True:=⟨⟩
theorem tw647786175185977398:True:=⟨⟩
theorem tw10912345215025156592:True:=⟨⟩
theorem tw16271023957578162507:True:=⟨⟩
theorem tw17684572354224030393:True:=⟨⟩
theorem tw15000512729771304485:True:=⟨⟩
theorem tw10823270630434389040:True:=⟨⟩
theorem tw11708812881401107916:True:=⟨⟩
theorem tw2963198477577055329:True:=⟨⟩
theorem tw2586791354617314348:True:=⟨⟩
theorem tw8685315308732040815:True:=⟨⟩
theorem tw3683552238413361183:True:=⟨⟩
theorem tw924798740798735744:True:=⟨⟩
theorem tw16220413388293924420:True:=⟨⟩
theorem tw16067447912732573617:True:=⟨⟩
theorem tw14631719829434036070:True:=⟨⟩
theorem tw2934402826621001360:True:=⟨⟩
theorem tw11636508510034050199:True:=⟨⟩
theorem tw11452492403939945759:True:=⟨⟩
theorem tw12130779100999274207:True:=⟨⟩
theorem tw14343667430824061036:True:=⟨⟩
theorem tw2224677224199560989:True:=⟨⟩
theorem tw14877371557105694450:True:=⟨⟩
theorem tw978972969266817286:True:=⟨⟩
theorem tw12462332125756653584:True:=⟨⟩
theorem tw14649798893854828484:True:=⟨⟩
theorem tw307765086831613382:True:=⟨⟩
theorem tw11694164954172850826:True:=⟨⟩
theorem tw2204093727182472976:True:=⟨⟩
theorem tw11781414525704419178:True:=⟨⟩
theorem tw3109531078565970689:True:=⟨⟩
theorem tw16212514487107811288:True:=⟨⟩
theorem tw3308009101859837713:True:=⟨⟩
theorem tw10705633309100827585:True:=⟨⟩
theorem tw17537699508629599448:True:=⟨⟩
theorem tw17585380709950166744:True:=⟨⟩
theorem tw12871871303324152961:True:=⟨⟩
theorem tw11151432509630929538:True:=⟨⟩
theorem tw4021672614646636912:True:=⟨⟩
theorem tw14182230700716022230:True:=⟨⟩
theorem tw10528049777557457029:True:=⟨⟩
theorem tw15121752355108413961:True:=⟨⟩
theorem tw5494025756467868085:True:=⟨⟩
theorem tw13413535879383024380:True:=⟨⟩
theorem tw99011876498562292:True:=⟨⟩
theorem tw3832459210215813328:True:=⟨⟩
theorem tw12677235780947650301:True:=⟨⟩
theorem tw7290203661809436553:True:=⟨⟩
theorem tw17612273166684962133:True:=⟨⟩
theorem tw6704010062595888738:True:=⟨⟩
theorem tw3168291534582804296:True:=⟨⟩
theorem tw6716640004291056475:True:=⟨⟩
theorem tw3053154688166956921:True:=⟨⟩
theorem tw2056166615127987387:True:=⟨⟩
theorem tw8702758937645007384:True:=⟨⟩
theorem tw10726416628339024990:True:=⟨⟩
theorem tw4034146652281228552:True:=⟨⟩
theorem tw5332981440096800395:True:=⟨⟩
theorem tw2782956408173472998:True:=⟨⟩
theorem tw3463163942420458836:True:=⟨⟩
theorem tw10308607953397850292:True:=⟨⟩
theorem tw11247939172819692868:True:=⟨⟩
theorem tw618026737641411061:True:=⟨⟩
theorem tw887706686492551053:True:=⟨⟩
end PySem.W.Fast
open PySem PySem.W PyProof.Rows
set_option maxRecDepth 100000 in
set_option maxHeartbeats 0 in
theorem PySem.Challenge.cw_roofpost_k65_whole_no_fewer_needless_holds : PySem.Challenge.rw_roofpost_k65_whole_no_fewer_needless.Holds := by
 w_on;(refine holds_law (by decide +kernel) λve=>?_);k_head;(case hw=>w_witness2)
 k_fill
 refine Own.walk (l:=PySem.Challenge.rw_roofpost_k65_whole_no_fewer_needless) Own.law_true rfl rfl ?W ?NT (λw h Y=>PySem.W.km_in_of Y) ?F
 (case W=>exact Option.isSome_iff_exists.mp (by kernel_rfl))
 (case NT=>intro p;kernel_rfl)
 case F =>
  intro w mg fa h KX G gy
  refine' Own.all_mk KX G gy ?a0 ?l0 ?c0 ?k0 ?a1 ?l1 ?c1 ?k1 ?a2 ?l2 ?c2 ?k2 ?a3 ?l3 ?c3 ?k3 ?a4 ?l4 ?c4 ?k4 ?a5 ?l5 ?c5 ?k5 ?a6 ?l6 ?c6 ?k6 ?a7 ?l7 ?c7 ?k7 ?a8 ?l8 ?c8 ?k8 ?a9 ?l9 ?c9 ?k9 ?lc ?lf ?lh ?lm ?ls ?lu ?lA ?lB ?lD ?lE ?lF ?lG ?lI ?lJ ?lK ?lL ?lN ?lO ?lP ?lQ ?lS ?lU ?lV ?lW ?iW ?lY ?lZ ?ma ?fi ?bF ?fj ?dP ?fm ?fq ?dg ?ft ?cA ?fu ?fv ?T0
  (case a0=>k_is)
  (case l0=>k_is)
  (case c0=>k_is)
  (case k0=>k_is)
  (case a1=>k_is)
  (case l1=>k_is)
  (case c1=>k_is)
  (case k1=>k_is)
  (case a2=>k_is)
  (case l2=>k_is)
  (case c2=>k_is)
  (case k2=>k_is)
  (case a3=>k_is)
  (case l3=>k_is)
  (case c3=>k_is)
  (case k3=>k_is)
  (case a4=>k_is)
  (case l4=>k_is)
  (case c4=>k_is)
  (case k4=>k_is)
  (case a5=>k_is)
  (case l5=>k_is)
  (case c5=>k_is)
  (case k5=>k_is)
  (case a6=>k_is)
  (case l6=>k_is)
  (case c6=>k_is)
  (case k6=>k_is)
  (case a7=>k_is)
  (case l7=>k_is)
  (case c7=>k_is)
  (case k7=>k_is)
  (case a8=>k_is)
  (case l8=>k_is)
  (case c8=>k_is)
  (case k8=>k_is)
  (case a9=>k_is)
  (case l9=>k_is)
  (case c9=>k_is)
  (case k9=>k_is)
  (case lc=>k_is)
  (case lf=>k_is)
  (case lh=>k_is)
  (case lm=>k_is)
  (case ls=>k_is)
  (case lu=>k_is)
  (case lA=>k_is)
  (case lB=>k_is)
  (case lD=>k_is)
  (case lE=>k_is)
  (case lF=>k_is)
  (case lG=>k_is)
  (case lI=>k_is)
  (case lJ=>k_is)
  (case lK=>k_is)
  (case lL=>k_is)
  (case lN=>k_is)
  (case lO=>k_is)
  (case lP=>k_is)
  (case lQ=>k_is)
  (case lS=>k_is)
  (case lU=>k_is)
  (case lV=>k_is)
  (case lW=>k_is)
  (case iW=>k_is)
  (case lY=>k_is)
  (case lZ=>k_is)
  (case ma=>k_is)
  (case fi=>k_is)
  (case bF=>k_is)
  (case fj=>k_is)
  (case dP=>k_is)
  (case fm=>k_is)
  (case fq=>k_is)
  (case dg=>k_is)
  (case ft=>k_is)
  (case cA=>k_is)
  (case fu=>k_is)
  (case fv=>k_is)
  (case T0=>kernel_rfl)
