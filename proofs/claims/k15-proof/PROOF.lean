import PyProof.Rows.All
import Wide.All
import OpenK.AllK
import Wide.FinOn
import Lean
import PyProof.EqAt
import PyProof.EqKinds
import PyProof.TupleCall
import KE.KNest
import PyProof.NeKinds
import PyProof.IsiSeqPairs
import PyProof.IsiNone
import KE.KSortTup
import KE.KRevSl
import KE.KLam
import PyProof.Conv_int_bool
import PySem.Challenge.RW_roofpost_k15_the_fewest_looked_at
set_option Elab.async false
set_option linter.all false
open Array (forIn_toList getD getD_eq_getD_getElem? getElem?_eq_none length_toList mem_iff_getElem? size_extract toList)
open Array.Perm (trans)
open Bool (and_eq_true false_eq_true)
open Classical (byContradiction)
open False (elim)
open ForInStep (yield)
open Function (comp_def)
open Int (emod_lt_of_pos emod_nonneg)
open List (all_cons all_eq_true any_cons any_eq_true any_map append_assoc append_nil drop_eq_getElem_cons drop_of_length_le drop_succ_cons filterMap_cons filter_cons filter_eq_nil_iff filter_sublist find?_eq_none flatMap_cons foldl_append foldl_cons forIn_cons forIn_nil getD_eq_getElem?_getD getElem?_append_left getElem?_append_right getElem?_cons_succ getElem?_drop getElem?_eq_getElem getElem?_map getElem?_set_ne getElem_map getElem_mem getElem_of_mem getElem_range length_append length_cons length_drop length_eq_zero_iff length_filter_le length_map length_pos_iff length_range length_replicate length_set length_take length_zip map map_append map_cons map_drop map_id map_map map_take mem_append mem_append_left mem_append_right mem_cons mem_cons_of_mem mem_cons_self mem_filter mem_filterMap mem_flatMap mem_map mem_of_getElem? mem_of_mem_drop mem_of_mem_take mem_range mem_singleton nil_append nodup_append nodup_cons nodup_nil not_mem_nil of_mem_zip pairwise_cons range range_succ_eq_map replicate set_set singleton_append size_toArray sum_cons take_append_drop take_length take_succ zip_cons_cons zip_map)
open List.Pairwise (imp_of_mem)
open List.Perm (swap)
open Nat (le_add_right le_of_lt le_refl le_succ le_trans le_zero lt_irrefl lt_of_lt_of_le lt_or_ge lt_succ_of_lt lt_succ_self lt_trichotomy mod_lt ne_of_gt ne_of_lt not_lt not_lt_zero succ_ne_self succ_pos zero_add zero_le)
open Option (getD_none map_eq_some_iff map_some)
open PUnit (unit)
open PySem (piled strLen_append)
open PySem.Around (under_plainId)
open PySem.Builtin.Frozenset (newClass slot0 updateFrom)
open PySem.Builtin.List (listExtendWith listLengthHint listTooLong)
open PySem.Builtin.Range (rangeSize)
open PySem.Builtin.Slice (sliceAdjust sliceApplied slicePlaces)
open PySem.Builtin.SmallTypes (nextOf stopIteration)
open PySem.Builtin.Tuple (tupleExact tupleHashOf tupleItemsOf)
open PySem.Data (fields seq)
open PySem.F (args_tuple_add_2 called_set entry_tuple_add plain_min_loop slot_tuple_add)
open PySem.Heap (get?_push_of_some get?_push_size get?_update_other get?_update_self lt_size size_push)
open PySem.Obj (data_mapFields mapSeq putSet)
open PySem.PassesOwn (never)
open PySem.PyData (depth depthAll hasDict hasDictAll showable showableAll shownAll)
open PySem.SeqAt (ne_of_list_tuple)
open PySem.Str (join ofString)
open PySem.Value (type)
open PySem.W (codeIn findIn fnOf instObj isFn keepIn kla_fn methodObj noTabs nsIn specialIn tabIn)
open Sum (inl inr)
set_option maxRecDepth 100000
local macro_rules|`(tactic|omega)=>`(tactic|first|with_reducible decide|with_reducible assumption|with_reducible (refine Nat.le_trans (m:=?x) ?p ?q;(case p=>assumption);(case q=>decide))|with_reducible (refine Int.le_trans (b:=?x) ?p ?q;(case p=>assumption);(case q=>decide))|with_reducible (refine Int.lt_of_lt_of_le (b:=?x) ?p ?q;(case p=>assumption);(case q=>decide))|with_reducible (refine Nat.lt_of_le_of_lt (m:=?x) ?p ?q;(case p=>assumption);(case q=>decide))|lia|omega (config:={}))
noncomputable section
namespace L2
open PySem PySem.Spec PyProof.Rows
abbrev Key:=Sum Int Str
noncomputable def keyIs:Key->Value->Bool
 | .inl k,v=>Value.isInt k v
 | .inr x,v=>Value.isStrOf x v
noncomputable def keyH (w:World):Key->Int
 | .inl k=>hashInt k
 | .inr x=>hashStr w x
theorem uL:∀ {k:Key}{v:Value},keyIs k v=true->(∃ i t,k=inl i/\v=Value.int i t)\/(∃ x t,k=inr x/\v=Value.str x t)
 | .inl i,v,h=>by
  obtain ⟨t,e⟩:=Value.isInt_shape (k:=i) (v:=v) h
  exact .inl ⟨i,t,rfl,e⟩
 | .inr x,v,h=>by
  obtain ⟨t,e⟩:=Value.isStrOf_shape (x:=x) (v:=v) h
  exact .inr ⟨x,t,rfl,e⟩
theorem IW (a b:Int):decide ((inl a:Key)=inl b)=(a == b):=by
 by_cases e:a=b
 ·subst e;simp
 ·have h:¬ (inl a:Key)=inl b:=λq=>e (inl.inj q)
  rw [decide_eq_false h]
  exact (beq_eq_false_iff_ne.mpr e).symm
theorem JV (a b:Str):decide ((inr a:Key)=inr b)=decide (a=b):=by
 by_cases e:a=b
 ·subst e;simp
 ·have h:¬ (inr a:Key)=inr b:=λq=>e (inr.inj q)
  rw [decide_eq_false h,decide_eq_false e]
theorem Lu (a:Int) (b:Str):decide ((inl a:Key)=inr b)=false:=decide_eq_false (λq=>nomatch q)
theorem Hf (a:Str) (b:Int):decide ((inr a:Key)=inl b)=false:=decide_eq_false (λq=>nomatch q)
noncomputable def mixKind (prog:Program) (w:World):PySem.KeyKind prog w Key where
 is:=keyIs
 hash:=keyH w
 inj:=λv a b ha hb=>by
  rcases uL ha with ⟨i,t,rfl,rfl⟩ | ⟨x,t,rfl,rfl⟩
  ·rcases uL hb with ⟨j,u,rfl,e⟩ | ⟨y,u,rfl,e⟩
   ·injection e with e1 _;rw [e1]
   ·exact nomatch e
  ·rcases uL hb with ⟨j,u,rfl,e⟩ | ⟨y,u,rfl,e⟩
   ·exact nomatch e
   ·injection e with e1 _;rw [e1]
 byValue:=λk v h=>by
  rcases uL h with ⟨i,t,rfl,rfl⟩ | ⟨x,t,rfl,rfl⟩<;>rfl
 pyHash:=λhv h=>by
  rcases uL hv with ⟨i,t,rfl,rfl⟩ | ⟨x,t,rfl,rfl⟩
  ·exact wpAny_pyHash_int h
  ·exact wpAny_pyHash_str h
 eqBool:=λhu hv h=>by
  rcases uL hu with ⟨i,t,rfl,rfl⟩ | ⟨x,t,rfl,rfl⟩
  ·rcases uL hv with ⟨j,u,rfl,rfl⟩ | ⟨y,u,rfl,rfl⟩
   ·rw [IW] at h;exact wpAny_eqBool_int h
   ·rw [Lu] at h;exact SeqAt.EqAt.int_str i t y u _ _ _ _ h
  ·rcases uL hv with ⟨j,u,rfl,rfl⟩ | ⟨y,u,rfl,rfl⟩
   ·rw [Hf] at h;exact SeqAt.EqAt.str_int x t j u _ _ _ _ h
   ·rw [JV] at h;exact wpAny_eqBool_str h
 «strs»:=λk x t v h=>by
  rcases uL h with ⟨i,u,rfl,e⟩ | ⟨y,u,rfl,e⟩
  ·exact nomatch e
  ·injection e with e1 _
   subst e1
   cases v<;>rfl
inductive V where
 | non | bl (b:Bool) | int (i:Int) | str (x:Str) | byt (b:Array UInt8) | flt (b:UInt64) | ref (a:Addr) | ty (n:String)
 deriving DecidableEq
def RelV:V->Value->Prop
 | .non,u=>u=Value.none
 | .bl b,u=>u=Value.bool b
 | .int i,u=>∃ t,u=Value.int i t
 | .str x,u=>∃ t,u=Value.str x t
 | .byt b,u=>∃ t,u=Value.bytes b t
 | .flt b,u=>∃ t,u=Value.float b t
 | .ref a,u=>u=Value.ref a
 | .ty n,u=>u=type n
abbrev Vals:List V->List Value->Prop:=Paired RelV
theorem Vals.length {xs:List V}{us:List Value} (r:Vals xs us):xs.length=us.length:=Paired.length r
theorem Vals.get:∀ {xs:List V}{us:List Value}{i:Nat}{x:V},Vals xs us->xs[i]?=some x->∃ u,us[i]?=some u/\RelV x u
 | _,_,_,_,.nil,e=>by simp at e
 | _,_,0,_,.cons r _,e=>by simp at e;subst e;exact ⟨_,rfl,r⟩
 | _,_,i+1,x,.cons _ t,e=>by
  obtain ⟨u,h1,h2⟩:=Vals.get (i:=i) (x:=x) t (by simpa using e)
  exact ⟨u,by simpa using h1,h2⟩
theorem Vals.set {x:V}{u:Value} (r:RelV x u):∀ {xs:List V}{us:List Value} (i:Nat),Vals xs us->Vals (xs.set i x) (us.set i u)
 | _,_,_,.nil=>.nil
 | _,_,0,.cons _ t=>.cons r t
 | _,_,i+1,.cons q t=>.cons q (Vals.set r i t)
theorem Vals.append:∀ {xs ys:List V}{us ws:List Value},Vals xs us->Vals ys ws->Vals (xs++ys) (us++ws)
 | _,_,_,_,.nil,s=>s
 | _,_,_,_,.cons r t,s=>.cons r (Vals.append t s)
theorem Vals.take:∀ {xs:List V}{us:List Value} (n:Nat),Vals xs us->Vals (xs.take n) (us.take n)
 | _,_,0,_=>.nil
 | _,_,_+1,.nil=>.nil
 | _,_,n+1,.cons r t=>.cons r (Vals.take n t)
theorem Vals.drop:∀ {xs:List V}{us:List Value} (n:Nat),Vals xs us->Vals (xs.drop n) (us.drop n)
 | _,_,0,r=>r
 | _,_,_+1,.nil=>.nil
 | _,_,n+1,.cons _ t=>Vals.drop n t
def RelO:Option V->Option Value->Prop
 | some v,some u=>RelV v u
 | none,none=>True
 | _,_=>False
def KV {κ:Type}:List (κ×V)->List (κ×Value)->Prop:=Paired λ(p:κ×V) (q:κ×Value)=>p.1=q.1/\RelV p.2 q.2
def kV:Key->V
 | .inl i=>.int i
 | .inr x=>.str x
inductive HO where
 | lst (xs:List V)
 | tup (xs:List V)
 | dK (aO:List (Key×V)) | dT (aO:List (List Key×V))
 | set (S:Int->Bool) (n:Nat)
 | ins (C dx:Addr) (fs:List (Str×V))
 | own (x:Addr)
 | xd (fs:List (Str×V))
 | met (f x:Addr)
 | rng (lo hi:Int)
 | frz (o:Obj) (u:HO)
 | tbl (q:Str)
 | ext (φ:Heap->Prop)
abbrev Hp:=Addr->Option HO
noncomputable def upd (H:Hp) (a:Addr) (o:HO):Hp:=λb=>if b=a then some o else H b
theorem tz {H:Hp}{a:Addr}{o:HO}:upd H a o a=some o:=by unfold upd;rw [if_pos rfl]
theorem sO {H:Hp}{a b:Addr}{o:HO} (h:b≠a):upd H a o b=H b:=by unfold upd;rw [if_neg h]
theorem ut {H:Hp}{a b:Addr}{o:HO} (h:H a=some o) (h':H b=none):a≠b:=by
 intro e;subst e;rw [h] at h';cases h'
section
variable (P:Program) (w:World)
def ObjOk (H:Hp) (h:Heap) (a:Addr):HO->Prop
 | .lst xs=>xs.length<=sizeLine/\∃ (ac:List Value) (n:Nat),Vals xs ac/\h.get? a=some { cls:=.type "list", data:=.seq ac.toArray n }
 | .tup xs=>xs.length<=sizeLine/\∃ ac:List Value,Vals xs ac/\IsTup h a ac.toArray
 | .dK aO=>aO.length<=sizeLine/\(a == sysModules)=false/\∃ vs,KV aO vs/\h.DictOf (mixKind P w) a vs
 | .dT aO=>aO.length<=sizeLine/\(a == sysModules)=false/\∃ xs:List (List Key×Addr×Value),
   Paired (λ(p:List Key×V) (q:List Key×Addr×Value)=>p.1=q.1/\H q.2.1=some (.tup (p.1.map kV))/\RelV p.2 q.2.2) aO xs ∧
   ∃ o es ep,h.get? a=some o/\o.ExactDict/\o.data=.dict es ep/\es.toList=xs.map (entryOfKey (tupleKind (mixKind P w)))/\(xs.map (·.1)).Nodup
 | .set S n=>h.SetOf (intKind P w) a S n
 | .ins C dx fs=>H dx=some (.own a)/\fs.length<=1000/\dx≠a/\h.get? a=some (instObj C dx) ∧
   ∃ mA,h.Ns1 dx mA/\(∀ f,RelO (fs.lookup f) (mA f))/\PySem.Within mA (fs.map (·.1))
 | .own _=>∃ o,h.get? a=some o
 | .xd fs=>∃ mA,h.Ns1 a mA/\∀ f,RelO (fs.lookup f) (mA f)
 | .rng lo hi=>∃ t u v,h.get? a=some { cls:=.type "range", data:=.fields #[.int lo t,.int hi u,.int 1 v] }
 | .frz o u=>h.get? a=some o/\ObjOk H h a u
 | .tbl q=>∃ ps:Array Value,h.get? a=some { cls:=.none,data:=.fields ps }/\TriplesOk ps.toList/\∀ pos cv,codeAmong pos ps.toList=some cv->∃ c oc vs t,cv=.ref c/\H c=some (.frz oc (.own a))/\oc.data=.fields vs/\vs[1]?=some (.str q t)
 | .met f x=>h.get? a=some (methodObj (.ref f) (.ref x))
 | .ext φ=>φ h/\(∃ o,h.get? a=some o)/\∀ h1 h2:Heap,φ h1->(∀ o,h1.get? a=some o->h2.get? a=some o)->φ h2
def HOk (H:Hp) (h:Heap):Prop:=∀ a o,H a=some o->ObjOk P w H h a o
end
section
variable {P:Program}{w:World}{H H':Hp}{h h':Heap}{a:Addr}{o:HO}
theorem ObjOk.lt (x:ObjOk P w H h a o):a < h.objs.size:=by
 cases o with
 | lst xs=>obtain ⟨_,_,_,_,e⟩:=x;exact lt_size e
 | tup xs=>obtain ⟨_,_,_,p⟩:=x;exact p.lt
 | dK aO=>obtain ⟨_,_,_,_,o,_,_,e,_⟩:=x;exact lt_size e
 | dT aO=>obtain ⟨_,_,_,_,o,_,_,e,_⟩:=x;exact lt_size e
 | set S n=>obtain ⟨o,_,_,_,e,_⟩:=x;exact lt_size e
 | ins C dx fs=>obtain ⟨_,_,_,e,_⟩:=x;exact lt_size e
 | own y=>obtain ⟨_,e⟩:=x;exact lt_size e
 | xd fs=>obtain ⟨_,⟨_,_,_,e,_⟩,_⟩:=x;exact lt_size e
 | rng lo hi=>obtain ⟨_,_,_,e⟩:=x;exact lt_size e
 | frz ob u=>obtain ⟨e,_⟩:=x;exact lt_size e
 | tbl q=>obtain ⟨_,e,_⟩:=x;exact lt_size e
 | met f y=>exact lt_size (show h.get? a=some _ from x)
 | ext φ=>obtain ⟨_,⟨_,e⟩,_⟩:=x;exact lt_size e
theorem Paired.mapP {α Z:Type}{F G:α->Z->Prop}:∀ {jl:List α}{jm:List Z},Paired F jl jm->(∀ a b,F a b->G a b)->Paired G jl jm
 | _,_,.nil,_=>.nil
 | _,_,.cons r t,f=>.cons (f _ _ r) (Paired.mapP t f)
theorem ObjOk.stay (x:ObjOk P w H h a o) (k:∀ b u,(b=a\/H b=some (.own a))->h.get? b=some u->h'.get? b=some u)
  (ho:∀ b,H b=some (.own a)->H' b=some (.own a)) (ht:∀ b xs,H b=some (.tup xs)->H' b=some (.tup xs)) (hz:∀ b o u,H b=some (.frz o u)->H' b=some (.frz o u)):ObjOk P w H' h' a o:=by
 induction o with
 | lst xs=>obtain ⟨z,ac,n,r,e⟩:=x;exact ⟨z,ac,n,r,k _ _ (.inl rfl) e⟩
 | tup xs=>obtain ⟨z,ac,r,ob,e,c⟩:=x;exact ⟨z,ac,r,ob,k _ _ (.inl rfl) e,c⟩
 | dK aO=>obtain ⟨z,y,vs,r,ob,es,ep,e,c⟩:=x;exact ⟨z,y,vs,r,ob,es,ep,k _ _ (.inl rfl) e,c⟩
 | dT aO =>
  obtain ⟨z,y,xs,r,ob,es,ep,e,c⟩:=x
  exact ⟨z,y,xs,Paired.mapP r λp q z=>⟨z.1,ht _ _ z.2.1,z.2.2⟩,ob,es,ep,k _ _ (.inl rfl) e,c⟩
 | set S n=>obtain ⟨ob,es,ep,t,e,c⟩:=x;exact ⟨ob,es,ep,t,k _ _ (.inl rfl) e,c⟩
 | ins C dx fs =>
  obtain ⟨d,z,ne,e,mA,⟨od,es,ep,e2,c⟩,r⟩:=x
  exact ⟨ho _ d,z,ne,k _ _ (.inl rfl) e,mA,⟨od,es,ep,k _ _ (.inr d) e2,c⟩,r⟩
 | own y=>obtain ⟨ob,e⟩:=x;exact ⟨ob,k _ _ (.inl rfl) e⟩
 | xd fs=>obtain ⟨mA,⟨od,es,ep,e,c⟩,r⟩:=x;exact ⟨mA,⟨od,es,ep,k _ _ (.inl rfl) e,c⟩,r⟩
 | rng lo hi=>obtain ⟨t,u,v,e⟩:=x;exact ⟨t,u,v,k _ _ (.inl rfl) e⟩
 | frz ob u ih=>obtain ⟨e,q⟩:=x;exact ⟨k _ _ (.inl rfl) e,ih q⟩
 | tbl q =>
  obtain ⟨ps,e,t,c⟩:=x
  refine ⟨ps,k _ _ (.inl rfl) e,t,λpos cv h=>?_⟩
  obtain ⟨c,oc,vs,t,e1,e2,e3⟩:=c pos cv h
  exact ⟨c,oc,vs,t,e1,hz _ _ _ e2,e3⟩
 | met f y =>
  have e:h.get? a=some (methodObj (.ref f) (.ref y)):=x
  show h'.get? a=some (methodObj (.ref f) (.ref y))
  exact k a _ (.inl rfl) e
 | ext φ=>obtain ⟨p,⟨o,e⟩,st⟩:=x;exact ⟨st _ _ p λo q=>k _ _ (.inl rfl) q,⟨o,k _ _ (.inl rfl) e⟩,st⟩
theorem HOk.lt (x:HOk P w H h) (e:H a=some o):a < h.objs.size:=(x a o e).lt
theorem HOk.fresh (x:HOk P w H h) (e:h.objs.size<=a):H a=none:=by
 cases q:H a with
 | none=>rfl
 | some u=>exact absurd (lt_of_lt_of_le (x.lt q) e) (lt_irrefl _)
theorem HOk.kept (x:HOk P w H h) (k:∀ b u,h.get? b=some u->h'.get? b=some u):HOk P w H h':=λa o e =>
 (x a o e).stay (λb u _ q=>k b u q) (λ_ q=>q) (λ_ _ q=>q) λ_ _ _ q=>q
theorem HOk.laid (x:HOk P w H h) (k:∀ b u,h.get? b=some u->h'.get? b=some u) (hp:h.objs.size<=a) (new:ObjOk P w (upd H a o) h' a o):HOk P w (upd H a o) h':=λb u e=>by
 have hn:=x.fresh hp
 by_cases hb:b=a
 ·subst hb;rw [tz] at e;cases e;exact new
 ·rw [sO hb] at e
  exact (x b u e).stay (λc v _ q=>k c v q) (λc q=>by rw [sO (ut q hn)];exact q) (λc xs q=>by rw [sO (ut q hn)];exact q) λc o u q=>by rw [sO (ut q hn)];exact q
end
def Rd (H:Hp) (a:Addr) (u:HO):Prop:=H a=some u\/∃ o,H a=some (.frz o u)
theorem Rd.ok {P:Program}{w:World}{H:Hp}{h:Heap}{a:Addr}{u:HO} (r:Rd H a u) (x:HOk P w H h):ObjOk P w H h a u:=by
 rcases r with r | ⟨o,r⟩
 ·exact x a u r
 ·obtain ⟨_,q⟩:=x a _ r
  exact q
def Mut:Option HO->Prop
 | some (.lst _)=>True
 | some (.dK _)=>True
 | some (.dT _)=>True
 | some (.set _ _)=>True
 | some (.ins _ _ _)=>True
 | some (.ext _)=>True
 | _=>False
section
variable {P:Program}{w:World}{H:Hp}{h h':Heap}{x e:Addr}{o':HO}
theorem HOk.write (ok:HOk P w H h) (mu:Mut (H x)) (he:e=x\/H e=some (.own x)) (k:∀ b u,b≠e->h.get? b=some u->h'.get? b=some u) (fE:∃ u,h'.get? e=some u)
  (new:ObjOk P w (upd H x o') h' x o'):HOk P w (upd H x o') h':=λb u q=>by
 have jo:∀ c y,H c=some (.own y)->c≠x:=λc y r z=>by subst z;rw [r] at mu;exact mu
 have lF:∀ c xs,H c=some (.tup xs)->c≠x:=λc xs r z=>by subst z;rw [r] at mu;exact mu
 by_cases hb:b=x
 ·subst hb;rw [tz] at q;cases q;exact new
 ·rw [sO hb] at q
  by_cases hbe:b=e
  ·have q':H b=some (.own x):=by
    rcases he with z | z
    ·exact absurd (hbe.trans z) hb
    ·rw [hbe];exact z
   rw [q] at q';cases q'
   obtain ⟨v,hv⟩:=fE
   exact ⟨v,by rw [hbe];exact hv⟩
  ·refine (ok b u q).stay (λc v hc r=>k c v ?_ r) (λc r=>by rw [sO (jo c b r)];exact r) (λc xs r=>by rw [sO (lF c xs r)];exact r) λc o u r=>by rw [sO (λz=>by subst z;rw [r] at mu;exact mu)];exact r
   rcases hc with rfl | hc
   ·exact hbe
   ·rintro rfl
    rcases he with z | z
    ·exact jo c b hc z
    ·rw [hc] at z;cases z;exact hb rfl
end
structure Un (fs ex:List Addr) (H H':Hp) (h h':Heap):Prop where
 keep:∀ b o,h.get? b=some o->H b=none->b∉fs->b∉ex->h'.get? b=some o
 slot:∀ b o,h.get? b=some o->H b=none->b∈fs->b∉ex->∃ sl,h'.get? b=some { o with slots:=sl }
 free:∀ b o,h.get? b=some o->H b=none->b∉ex->H' b=none
 there:∀ b o,h.get? b=some o->b∉ex->∃ o',h'.get? b=some o'
 tups:∀ b xs,H b=some (.tup xs)->H' b=some (.tup xs)
 frzs:∀ b o u,H b=some (.frz o u)->H' b=some (.frz o u)
 tbls:∀ b q,H b=some (.tbl q)->H' b=some (.tbl q)
section
variable {fs oz ex rF:List Addr}{H H1 H2:Hp}{h h1 h2 h':Heap}{a x e:Addr}{o:HO}
theorem Un.any (u:Un fs ex H H1 h h1){b:Addr}{ob:Obj} (q:h.get? b=some ob) (n:H b=none) (hx:b∉ex):∃ sl,h1.get? b=some { ob with slots:=sl }:=by
 by_cases hb:b∈fs
 ·exact u.slot b ob q n hb hx
 ·exact ⟨ob.slots,u.keep b ob q n hb hx⟩
theorem Un.kept (k:∀ b u,h.get? b=some u->h'.get? b=some u):Un fs ex H H h h' :=
 ⟨λb ob q _ _ _=>k b ob q,λb ob q _ _ _=>⟨ob.slots,k b ob q⟩,λ_ _ _ n _=>n,λb ob q _=>⟨ob,k b ob q⟩,λ_ _ q=>q,λ_ _ _ q=>q,λ_ _ q=>q⟩
theorem Un.refl:Un fs ex H H h h:=Un.kept λ_ _ q=>q
theorem Un.laid (k:∀ b u,h.get? b=some u->h'.get? b=some u) (hp:h.objs.size<=a) (hn:H a=none):Un fs ex H (upd H a o) h h' where
 keep:=λb u q _ _ _=>k b u q
 slot:=λb u q _ _ _=>⟨u.slots,k b u q⟩
 free:=λb u q n _=>by rw [sO (ne_of_lt (lt_of_lt_of_le (lt_size q) hp))];exact n
 there:=λb u q _=>⟨u,k b u q⟩
 tups:=λb xs q=>by rw [sO (ut q hn)];exact q
 frzs:=λb u xs q=>by rw [sO (ut q hn)];exact q
 tbls:=λb xs q=>by rw [sO (ut q hn)];exact q
theorem Un.write (mu:Mut (H x)) (he:e=x\/H e=some (.own x)) (k:∀ b u,b≠e->h.get? b=some u->h'.get? b=some u) (fE:∃ u,h'.get? e=some u):Un fs ex H (upd H x o) h h':=by
 have hx:∀ b,H b=none->b≠x:=λb n z=>by subst z;rw [n] at mu;exact mu
 have hb:∀ b,H b=none->b≠e:=λb n z=>by
  subst z
  rcases he with r | r
  ·exact hx b n r
  ·rw [n] at r;cases r
 have hm:∀ b u,H b=some u->¬ Mut (some u)->b≠x:=λb u q nm z=>by subst z;rw [q] at mu;exact nm mu
 refine ⟨λb u q n _ _=>k b u (hb b n) q,λb u q n _ _=>⟨u.slots,k b u (hb b n) q⟩,λb u q n _=>by rw [sO (hx b n)];exact n,λb u q _=>?_,
  λb xs q=>by rw [sO (hm b _ q λz=>z)];exact q,λb u xs q=>by rw [sO (hm b _ q λz=>z)];exact q,λb xs q=>by rw [sO (hm b _ q λz=>z)];exact q⟩
 by_cases hbe:b=e
 ·subst hbe;exact fE
 ·exact ⟨u,k b u hbe q⟩
end
noncomputable def trk (h:Heap) (H:Hp):List Addr:=(range h.objs.size).filter λa=>(H a).isSome
noncomputable def hidT (h:Heap) (H:Hp):Heap:=PySem.W.hideAll h (trk h H)
theorem Mn (h:Heap) (H:Hp):(hidT h H).objs.size=h.objs.size:=PySem.W.hideAll_size _ _
theorem LO {h:Heap}{H:Hp}{b:Addr}{o:Obj} (e:h.get? b=some o) (n:H b=none):(hidT h H).get? b=some o :=
 PySem.W.hideAll_get _ e λhm=>by
  have q:(H b).isSome=true:=(mem_filter.mp hm).2
  rw [n] at q;simp at q
theorem Fh {h:Heap}{H:Hp}{b:Addr}{o:Obj} (e:(hidT h H).get? b=some o):h.get? b=some o/\H b=none:=by
 have e':h.get? b=some o:=PySem.W.of_hideAll (trk h H) e
 refine ⟨e',?_⟩
 cases q:H b with
 | none=>rfl
 | some x =>
  have hm:b∈trk h H:=mem_filter.mpr ⟨mem_range.mpr (lt_size e'),by simp [q]⟩
  have z:(hidT h H).get? b=none:=PySem.W.hideAll_none (trk h H) hm
  rw [z] at e;cases e
def TabsOk (K:PySem.W.Frag) (H:Hp):Prop:=∀ c P,tabIn K "letter_left"=some (c,P)->H P=some (.tbl "letter_left.<locals>.<lambda>")
structure Mod (K:PySem.W.Frag) (mg:Str->Option Value) (base:Heap):Prop where
 kin:K.In base
 glob:base.Ns mainGlobals mg
 blt:∃ mb,base.Ns builtinsNs mb/\∀ x:Str,x ≠ "__name__"->mb x=bootBuiltins x
 nolimit:base.NoLimit
 bm:∃ bm ob,mg "__builtins__"=some (.ref bm)/\bm≠builtinsNs/\base.get? bm=some ob/\ob.cls=.type "module"/\ob.dict=some builtinsNs/\ob.data=.plain
 cod:∀ c P,tabIn K "letter_left"=some (c,P)->PySem.W.CodeHd base c P
structure Cx where
 prog:Program
 w:World
 K:PySem.W.Frag
 mg:Str->Option Value
 base:Heap
 A:Around
 N:List Str
 s₀:Shared
 H₀:Hp
 env:Env
 outer:List Env
 stack:List Env
 ex:List Addr
 fn:Str->Bool
 calm:Bool
 pn:List (Addr×Obj)
 xe:Value->Shared->Prop
def frs (l:List Env):List Addr:=l.filterMap (·.frame)
abbrev Cx.fs (X:Cx):List Addr:=frs X.outer
def Vis (sc:Scope) (x:Str):Prop:=sc.names.lookup x=some .local\/sc.names.lookup x=some .cell\/sc.names.lookup x=some .free
def Loc (sc:Scope) (x:Str):Prop:=sc.names.lookup x=some .local\/sc.names.lookup x=some .cell
noncomputable def visB (s:Scope) (x:Str):Bool:=match s.names.lookup x with|some .local=>true|some .cell=>true|some .free=>true|_=>false
noncomputable def locB (s:Scope) (x:Str):Bool:=match s.names.lookup x with|some .local=>true|some .cell=>true|_=>false
noncomputable def fnB (X:Cx) (x:Str):Bool:=X.fn x||match X.env.scope.names.lookup x with|some .local=>true|_=>false
theorem visI {s:Scope}{x:Str} (h:visB s x=true):Vis s x:=by
 unfold visB at h;unfold Vis;split at h<;>simp_all
theorem locI {s:Scope}{x:Str} (h:locB s x=true):Loc s x:=by
 unfold locB at h;unfold Loc;split at h<;>simp_all
theorem fnI {X:Cx}{x:Str} (h:fnB X x=true):X.fn x=true\/X.env.scope.names.lookup x=some .local:=by
 unfold fnB at h
 cases e:X.fn x with
 | true=>exact .inl rfl
 | false=>rw [e,Bool.false_or] at h;split at h<;>simp_all
def Look (env:Env) (h:Heap) (m:Str->Option Value) (x:Str) (u:Value):Prop :=
 (env.kindOf x=some .local/\m x=some u)\/((env.kindOf x=some .cell\/env.kindOf x=some .free)/\∃ c,env.cells.lookup x=some c/\h.IsCell c (some u))
structure Cx.Ok (X:Cx):Prop where
 mod:Mod X.K X.mg X.base
 kind:X.env.scope.kind=.function
 glob:X.env.globals=mainGlobals
 blt:X.env.builtins=builtinsNs
 above:X.s₀.heap.objs.size<=X.env.locals
 inj:∀ x y c,X.env.cells.lookup x=some c->X.env.cells.lookup y=some c->x=y
 has:∀ x,(X.env.kindOf x=some .cell\/X.env.kindOf x=some .free)->∃ c,X.env.cells.lookup x=some c
 cab:∀ x c,X.fn x=true->X.env.cells.lookup x=some c->X.s₀.heap.objs.size<=c
 hd:X.calm=true->X.A.handled=none
 frames:X.A.frames=some X.stack
 stk:X.stack=X.outer\/(X.stack=X.env::X.outer/\X.env.frame=some X.env.locals)
 exf:∀ b∈X.ex,b≠X.env.locals/\∀ x c,X.env.cells.lookup x=some c->c≠b
 bs:∀ b o,X.base.get? b=some o->X.s₀.heap.get? b=some o/\X.H₀ b=none
 bsz:X.base.objs.size<=X.s₀.heap.objs.size
 noex:∀ b o,X.base.get? b=some o->b∉X.ex
 exfs:∀ b∈X.ex,b∉X.fs
 funs:X.s₀.heap.FunFrames X.base X.outer
 frf:∀ b∈X.fs,X.H₀ b=none
 tb:TabsOk X.K X.H₀
structure Inv (X:Cx) (aa:List (Addr×Obj)) (U:List (Option V)) (H:Hp) (s:Shared):Prop where
 ok:X.Ok
 os:s.os=X.s₀.os
 bare:AllBare s.gens
 base:Un X.fs X.ex X.H₀ H X.s₀.heap s.heap
 loc:∃ m,s.heap.Ns X.env.locals m/\∀ (i:Nat) (x:Str) (v:V),X.N[i]?=some x->U[i]?=some (some v)->Vis X.env.scope x->∃ u,RelV v u/\Look X.env s.heap m x u
 cell:∀ x c,X.env.cells.lookup x=some c->∃ v,s.heap.IsCell c v
 free:H X.env.locals=none
 freeC:∀ x c,X.env.cells.lookup x=some c->H c=none
 pin:∀ p∈X.pn++aa,s.heap.get? p.1=some p.2/\H p.1=none/\p.1≠X.env.locals/\p.1∉X.fs/\∀ v,p.2.data≠.cell v
 hok:HOk X.prog X.w H s.heap
 len:U.length=X.N.length
section
variable {X:Cx}{aa:List (Addr×Obj)}{U:List (Option V)}{H H':Hp}{s:Shared}{h':Heap}
theorem Cx.Ok.nofr (ok:X.Ok){b:Addr}{o:Obj} (e:X.base.get? b=some o):b∉X.fs:=λhb=>by
 have:=(ok.funs.mem hb).1
 rw [e] at this;cases this
theorem Inv.bs (I:Inv X aa U H s):∀ b o,X.base.get? b=some o->s.heap.get? b=some o/\H b=none:=λb o e =>
 ⟨I.base.keep b o (I.ok.bs b o e).1 (I.ok.bs b o e).2 (I.ok.nofr e) (I.ok.noex b o e),I.base.free b o (I.ok.bs b o e).1 (I.ok.bs b o e).2 (I.ok.noex b o e)⟩
theorem Inv.bk (I:Inv X aa U H s):∀ b o,X.base.get? b=some o->s.heap.get? b=some o:=λb o e=>(I.bs b o e).1
theorem Inv.mod (I:Inv X aa U H s):Mod X.K X.mg X.base:=I.ok.mod
theorem Inv.kIn (I:Inv X aa U H s):X.K.In s.heap:=I.ok.mod.kin.keeps I.bk
theorem Inv.nolimit (I:Inv X aa U H s):s.heap.NoLimit:=I.ok.mod.nolimit.keeps I.bk
theorem Inv.lt (I:Inv X aa U H s):X.env.locals < s.heap.objs.size:=let ⟨_,hn,_⟩:=I.loc;hn.lt
theorem Inv.sz (I:Inv X aa U H s):X.s₀.heap.objs.size<=s.heap.objs.size:=le_trans I.ok.above (le_of_lt I.lt)
theorem Inv.nofs (I:Inv X aa U H s){a:Addr} (h:s.heap.objs.size<=a):a∉X.fs:=λhb=>by
 obtain ⟨_,o,ho,_⟩:=I.ok.funs.mem hb
 exact absurd (lt_of_lt_of_le (lt_size ho) (le_trans I.sz h)) (lt_irrefl _)
theorem Inv.cne (I:Inv X aa U H s):∀ x c,X.env.cells.lookup x=some c->c≠X.env.locals:=λx c e z=>by
 obtain ⟨v,o,ho,hd⟩:=I.cell x c e
 obtain ⟨m,⟨o',es,ep,cJ,bK,_⟩,_⟩:=I.loc
 rw [z,cJ] at ho;cases ho;rw [bK] at hd;cases hd
theorem Inv.funs (I:Inv X aa U H s):s.heap.FunFrames X.base X.outer:=by
 have all:∀ (l:List Env),(∀ b∈frs l,b∈X.fs)->X.s₀.heap.FunFrames X.base l->s.heap.FunFrames X.base l:=by
  intro l
  induction l with
  | nil=>intro _ _;trivial
  | cons env r ih =>
   intro hs hl
   obtain ⟨hk,⟨L,o,hf,hn,ho,hd⟩,hr⟩:=hl
   have hL:L∈X.fs:=hs L (by unfold frs;rw [filterMap_cons,hf];exact mem_cons_self)
   obtain ⟨sl,e⟩:=I.base.slot L o ho (I.ok.frf L hL) hL λz=>I.ok.exfs L z hL
   exact ⟨hk,⟨L,_,hf,hn,e,hd⟩,ih (λb hb=>hs b (by unfold frs;rw [filterMap_cons,hf];exact mem_cons_of_mem _ hb)) hr⟩
 exact all X.outer (λ_ hb=>hb) I.ok.funs
theorem Inv.stack (I:Inv X aa U H s):s.heap.FunFrames X.base X.stack:=by
 rcases I.ok.stk with e | ⟨e,hf⟩
 ·rw [e];exact I.funs
 ·rw [e]
  obtain ⟨m,hn,_⟩:=I.loc
  refine .cons (by rw [I.ok.kind];decide) hf hn ?_ I.funs
  exact Heap.get?_none_of_le (le_trans I.ok.bsz I.ok.above)
theorem Inv.stkSub (I:Inv X aa U H s):∀ b∈frs X.stack,b∈X.env.locals::X.fs:=λb hb=>by
 rcases I.ok.stk with e | ⟨e,hf⟩
 ·rw [e] at hb;exact mem_cons_of_mem _ hb
 ·rw [e] at hb
  unfold frs at hb
  rw [filterMap_cons,hf] at hb
  exact hb
theorem Inv.stkFree (I:Inv X aa U H s):∀ b∈frs X.stack,H b=none:=λb hb=>by
 rcases mem_cons.mp (I.stkSub b hb) with e | hb
 ·rw [e];exact I.free
 ·obtain ⟨_,o,ho,_⟩:=I.ok.funs.mem hb
  exact I.base.free b o ho (I.ok.frf b hb) λz=>I.ok.exfs b z hb
theorem Inv.step {g':Array GenState}{t':Nat}{d':Drawn}{ch:List Addr} (I:Inv X aa U H s)
  (bq:∀ b∈ch,(b∈X.ex\/X.s₀.heap.objs.size<=b)/\b≠X.env.locals/\(∀ x c,X.env.cells.lookup x=some c->c≠b)/\∀ p∈X.pn++aa,p.1≠b)
  (keep:∀ b o,b≠X.env.locals->b∉X.fs->b∉ch->s.heap.get? b=some o->H b=none->h'.get? b=some o)
  (slot:∀ b o,b≠X.env.locals->b∈X.fs->b∉ch->s.heap.get? b=some o->H b=none->∃ sl,h'.get? b=some { o with slots:=sl }) (free:∀ b o,b∉ch->s.heap.get? b=some o->H b=none->H' b=none)
  (there:∀ b o,b∉ch->s.heap.get? b=some o->∃ o',h'.get? b=some o')
  (tups:∀ b xs,H b=some (.tup xs)->H' b=some (.tup xs)) (frzs:∀ b o u,H b=some (.frz o u)->H' b=some (.frz o u)) (tbls:∀ b q,H b=some (.tbl q)->H' b=some (.tbl q))
  (ns:∀ m,s.heap.Ns X.env.locals m->h'.Ns X.env.locals m) (hok:HOk X.prog X.w H' h') (hg:AllBare g') :
  Inv X aa U H' { s with heap:=h',gens:=g',drawn:=d',toks:=t' }:=by
 have fF:∀ b o,X.s₀.heap.get? b=some o->b≠X.env.locals:=λb o e=>ne_of_lt (lt_of_lt_of_le (lt_size e) I.ok.above)
 have fG:∀ b o,X.s₀.heap.get? b=some o->b∉X.ex->b∉ch:=λb o e hx hb=>by
  rcases (bq b hb).1 with z | z
  ·exact hx z
  ·exact absurd (lt_of_lt_of_le (lt_size e) z) (lt_irrefl _)
 have fS:∀ x c,X.env.cells.lookup x=some c->∀ v,s.heap.IsCell c v->h'.IsCell c v:=λx c e v ⟨o,ho,hd⟩=>by
  have cL:c∉ch:=λz=>(bq c z).2.2.1 x c e rfl
  by_cases hc:c∈X.fs
  ·obtain ⟨sl,q⟩:=slot c o (I.cne x c e) hc cL ho (I.freeC x c e)
   exact ⟨_,q,hd⟩
  ·exact ⟨o,keep c o (I.cne x c e) hc cL ho (I.freeC x c e),hd⟩
 refine ⟨I.ok,I.os,hg,⟨λb o e n hb hx=>?_,λb o e n hb hx=>?_,λb o e n hx=>?_,λb o e hx=>?_,λb xs e=>tups b xs (I.base.tups b xs e),λb o xs e=>frzs b o xs (I.base.frzs b o xs e),λb ps e=>?_⟩,?_,λx c e=>?_,?_,λx c e=>?_,λp hp=>?_,hok,I.len⟩
 ·exact keep b o (fF b o e) hb (fG b o e hx) (I.base.keep b o e n hb hx) (I.base.free b o e n hx)
 ·obtain ⟨sl,e1⟩:=I.base.slot b o e n hb hx
  obtain ⟨oA,e2⟩:=slot b _ (fF b o e) hb (fG b o e hx) e1 (I.base.free b o e n hx)
  exact ⟨oA,e2⟩
 ·obtain ⟨o',e1⟩:=I.base.there b o e hx
  exact free b o' (fG b o e hx) e1 (I.base.free b o e n hx)
 ·obtain ⟨o',e1⟩:=I.base.there b o e hx
  exact there b o' (fG b o e hx) e1
 ·exact tbls b ps (I.base.tbls b ps e)
 ·obtain ⟨m,hn,hl⟩:=I.loc
  refine ⟨m,ns m hn,λi x v e1 e2 e3=>?_⟩
  obtain ⟨u,r,l⟩:=hl i x v e1 e2 e3
  refine ⟨u,r,?_⟩
  rcases l with l | ⟨k,c,e,z⟩
  ·exact .inl l
  ·exact .inr ⟨k,c,e,fS x c e _ z⟩
 ·obtain ⟨v,z⟩:=I.cell x c e
  exact ⟨v,fS x c e v z⟩
 ·obtain ⟨m,⟨o,_,_,ho,_⟩,_⟩:=I.loc
  exact free _ o (λz=>(bq _ z).2.1 rfl) ho I.free
 ·obtain ⟨v,o,ho,hd⟩:=I.cell x c e
  exact free c o (λz=>(bq c z).2.2.1 x c e rfl) ho (I.freeC x c e)
 ·obtain ⟨e,n,ne,nf,d⟩:=I.pin p hp
  have cL:p.1∉ch:=λz=>(bq p.1 z).2.2.2 p hp rfl
  exact ⟨keep p.1 p.2 ne nf cL e n,free p.1 p.2 cL e n,ne,nf,d⟩
theorem Inv.un {t':Nat} (I:Inv X aa U H s) (u:Un X.fs [] H H' s.heap h') (hok:HOk X.prog X.w H' h'):Inv X aa U H' { s with heap:=h',toks:=t' }:=by
 obtain ⟨m,⟨o,es,ep,ho,r⟩,_⟩:=id I.loc
 obtain ⟨sl,hL⟩:=u.any ho I.free (by simp)
 exact I.step (g':=s.gens) (d':=s.drawn) (ch:=[]) (λ_ z=>nomatch z) (λb o _ hb _ e n=>u.keep b o e n hb (by simp)) (λb o _ hb _ e n=>u.slot b o e n hb (by simp)) (λb o _ e n=>u.free b o e n (by simp)) (λb o _ e=>u.there b o e (by simp)) u.tups u.frzs u.tbls (λm' hm=>by
  obtain ⟨o',es',jN,cJ,r'⟩:=hm
  rw [ho] at cJ;cases cJ
  exact ⟨_,es',jN,hL,r'⟩) hok I.bare
theorem Inv.call {g':Array GenState}{t':Nat}{d':Drawn}{ch:List Addr} (I:Inv X aa U H s) (u:Un (frs X.stack) ch H H' s.heap h') (hok:HOk X.prog X.w H' h') (hg:AllBare g')
  (bq:∀ b∈ch,(b∈X.ex\/X.s₀.heap.objs.size<=b)/\b≠X.env.locals/\(∀ x c,X.env.cells.lookup x=some c->c≠b)/\∀ p∈X.pn++aa,p.1≠b) :
  Inv X aa U H' { s with heap:=h',gens:=g',drawn:=d',toks:=t' }:=by
 obtain ⟨m,⟨o,es,ep,ho,r⟩,_⟩:=id I.loc
 obtain ⟨sl,hL⟩:=u.any ho I.free λz=>(bq _ z).2.1 rfl
 exact I.step (ch:=ch) bq (λb o hL hb hc e n=>u.keep b o e n (λz=>(mem_cons.mp (I.stkSub b z)).elim hL hb) hc) (λb o _ _ hc e n=>u.any e n hc) (λb o hc e n=>u.free b o e n hc) (λb o hc e=>u.there b o e hc) u.tups u.frzs u.tbls (λm' hm=>by
  obtain ⟨o',es',jN,cJ,r'⟩:=hm
  rw [ho] at cJ;cases cJ
  exact ⟨_,es',jN,hL,r'⟩) hok hg
theorem Inv.turned {t':Nat}{it:Addr} (I:Inv X aa U H s) (k:∀ b o,b≠it->s.heap.get? b=some o->h'.get? b=some o) (hn:H it=none) (hL:it≠X.env.locals)
  (h1:it∈X.ex\/X.s₀.heap.objs.size<=it) (h2:∀ x c,X.env.cells.lookup x=some c->c≠it) (h3:∀ p∈X.pn++aa,p.1≠it):Inv X aa U H { s with heap:=h',toks:=t' }:=by
 have lG:∀ b u,H b=some u->b≠it:=λb u e z=>by rw [z,hn] at e;cases e
 refine I.step (g':=s.gens) (d':=s.drawn) (ch:=[it]) (λb hb=>?_) (λb o _ _ hc e _=>k b o (λz=>hc (by simp [z])) e) (λb o _ _ hc e _=>⟨o.slots,k b o (λz=>hc (by simp [z])) e⟩) (λ_ _ _ _ n=>n)
  (λb o hc e=>⟨o,k b o (λz=>hc (by simp [z])) e⟩) (λ_ _ e=>e) (λ_ _ _ e=>e) (λ_ _ e=>e) (λm hm=>?_) (λb u e=>?_) I.bare
 ·have e:b=it:=by simpa using hb
  subst e
  exact ⟨h1,hL,h2,h3⟩
 ·obtain ⟨o,es,ep,ho,r⟩:=hm
  exact ⟨o,es,ep,k _ o (Ne.symm hL) ho,r⟩
 ·refine (I.hok b u e).stay (λc v hc q=>k c v ?_ q) (λ_ q=>q) (λ_ _ q=>q) λ_ _ _ q=>q
  rcases hc with z | z
  ·rw [z];exact lG b u e
  ·exact lG c _ z
theorem Inv.tok (I:Inv X aa U H s) (t:Nat):Inv X aa U H { s with toks:=t }:=I.un (h':=s.heap) (t':=t) Un.refl I.hok
theorem Inv.kept {t':Nat} (I:Inv X aa U H s) (k:∀ b u,s.heap.get? b=some u->h'.get? b=some u):Inv X aa U H { s with heap:=h',toks:=t' }:=I.un (Un.kept k) (I.hok.kept k)
theorem Inv.laid {a:Addr}{o:HO}{t':Nat} (I:Inv X aa U H s) (k:∀ b u,s.heap.get? b=some u->h'.get? b=some u) (hp:s.heap.objs.size<=a) (new:ObjOk X.prog X.w (upd H a o) h' a o) :
  Inv X aa U (upd H a o) { s with heap:=h',toks:=t' }:=I.un (Un.laid k hp (I.hok.fresh hp)) (I.hok.laid k hp new)
theorem Inv.write {x e:Addr}{o:HO}{t':Nat} (I:Inv X aa U H s) (mu:Mut (H x)) (he:e=x\/H e=some (.own x)) (k:∀ b u,b≠e->s.heap.get? b=some u->h'.get? b=some u) (fE:∃ u,h'.get? e=some u)
  (new:ObjOk X.prog X.w (upd H x o) h' x o):Inv X aa U (upd H x o) { s with heap:=h',toks:=t' }:=I.un (Un.write mu he k fE) (I.hok.write mu he k fE new)
theorem Inv.pins_of {fT:List (Addr×Obj)} (I:Inv X aa U H s) (h:∀ p∈fT,s.heap.get? p.1=some p.2/\H p.1=none/\p.1≠X.env.locals/\p.1∉X.fs/\∀ v,p.2.data≠.cell v):Inv X fT U H s :=
 ⟨I.ok,I.os,I.bare,I.base,I.loc,I.cell,I.free,I.freeC,λp hp=>(mem_append.mp hp).elim (λz=>I.pin p (mem_append_left _ z)) (h p),I.hok,I.len⟩
theorem BD {N:List Str} (hN:N.Nodup){i j:Nat}{x:Str} (a:N[i]?=some x) (b:N[j]?=some x):i=j:=by
 obtain ⟨h1,e1⟩:=List.getElem?_eq_some_iff.mp a
 obtain ⟨h2,e2⟩:=List.getElem?_eq_some_iff.mp b
 exact (List.getElem_inj hN).mp (e1.trans e2.symm)
theorem DI {M:Model}{A:Around}{E:Value->Shared->Prop}{i:Nat}{x:Str}{v:V}{u:Value}{Q:Unit->Shared->Prop} (I:Inv X aa U H s) (hN:X.N.Nodup) (hi:X.N[i]?=some x) (hx:Loc X.env.scope x) (r:RelV v u)
  (h:∀ s',Inv X aa (U.set i (some v)) H s'->(∃ a,Heap.SameBut a s.heap s'.heap/\(a=X.env.locals\/X.env.cells.lookup x=some a))->Q () s') (hf:X.fn x=true\/X.env.scope.names.lookup x=some .local):wpAny M A (storeName X.env x u) Q E s:=by
 obtain ⟨m,hn,hl⟩:=id I.loc
 have lH:(X.env.scope.kind == .class||(X.env.scope.kind == .module&&X.env.locals != X.env.globals))=false:=by rw [I.ok.kind];rfl
 have jp:i < U.length:=by rw [I.len];exact (List.getElem?_eq_some_iff.mp hi).1
 have cne:=I.cne
 have cM:∀ {a:Addr}{h':Heap},(∃ o,s.heap.get? a=some o/\H a=none)->Heap.SameBut a s.heap h'->HOk X.prog X.w H h':=λ{a h'} ha hs b ob e=>by
  obtain ⟨_,_,dy⟩:=ha
  refine (I.hok b ob e).stay (λc w' hc q=>(hs.2 c ?_).trans q) (λ_ q=>q) (λ_ _ q=>q) λ_ _ _ q=>q
  rintro rfl
  rcases hc with rfl | hc
  ·rw [dy] at e;cases e
  ·rw [dy] at hc;cases hc
 rcases hx with hk | hk
 ·refine wpAny_storeName_local hk hn (λh' fU hs=>?_) lH
  obtain ⟨oL,_,_,oB,_⟩:=id hn
  refine h _ ⟨I.ok,I.os,I.bare,⟨λb o e n hb hx=>?_,λb o e n hb hx=>?_,I.base.free,λb o e hx=>?_,I.base.tups,I.base.frzs,I.base.tbls⟩,⟨_,fU,λj y v' e1 e2 e3=>?_⟩,λy c e=>?_,I.free,I.freeC,λp hp=>?_,cM ⟨oL,oB,I.free⟩ hs,by simpa using I.len⟩ ⟨_,hs,.inl rfl⟩
  ·exact (hs.2 b (ne_of_lt (lt_of_lt_of_le (lt_size e) I.ok.above))).trans (I.base.keep b o e n hb hx)
  ·obtain ⟨sl,e1⟩:=I.base.slot b o e n hb hx
   exact ⟨sl,(hs.2 b (ne_of_lt (lt_of_lt_of_le (lt_size e) I.ok.above))).trans e1⟩
  ·obtain ⟨o',e1⟩:=I.base.there b o e hx
   exact ⟨o',(hs.2 b (ne_of_lt (lt_of_lt_of_le (lt_size e) I.ok.above))).trans e1⟩
  ·by_cases hj:j=i
   ·subst hj
    rw [hi] at e1;cases e1
    rw [List.getElem?_set_self jp] at e2
    cases e2
    exact ⟨u,r,.inl ⟨hk,by simp⟩⟩
   ·rw [getElem?_set_ne (Ne.symm hj)] at e2
    obtain ⟨u',r',q⟩:=hl j y v' e1 e2 e3
    refine ⟨u',r',?_⟩
    rcases q with ⟨k,e⟩ | ⟨k,c,e,z⟩
    ·refine .inl ⟨k,?_⟩
     have:y≠x:=λe=>hj (BD hN e1 (e▸hi))
     simp [this,e]
    ·exact .inr ⟨k,c,e,z.sameBut hs (cne y c e)⟩
  ·obtain ⟨w',z⟩:=I.cell y c e
   exact ⟨w',z.sameBut hs (cne y c e)⟩
  ·obtain ⟨e,n,ne,nf,d⟩:=I.pin p hp
   exact ⟨(hs.2 p.1 ne).trans e,n,ne,nf,d⟩
 ·have jO:X.fn x=true:=by
   rcases hf with z | z
   ·exact z
   ·rw [z] at hk;cases hk
  obtain ⟨c,hc⟩:=I.ok.has x (.inl hk)
  obtain ⟨w',z⟩:=I.cell x c hc
  refine wpAny_storeName_cell I.ok.kind hk hc z (λh' aK hs=>?_)
  obtain ⟨oc,fV,lI⟩:=id z
  refine h { s with heap:=h' } ⟨I.ok,I.os,I.bare,⟨λb o e n hb hx=>?_,λb o e n hb hx=>?_,I.base.free,λb o e hx=>?_,I.base.tups,I.base.frzs,I.base.tbls⟩,⟨m,hn.sameBut hs (Ne.symm (cne x c hc)),λj y v' e1 e2 e3=>?_⟩,λy c' e=>?_,I.free,I.freeC,λp hp=>?_,cM ⟨oc,fV,I.freeC x c hc⟩ hs,by simpa using I.len⟩ ⟨c,hs,.inr hc⟩
  ·exact (hs.2 b (ne_of_lt (lt_of_lt_of_le (lt_size e) (I.ok.cab x c jO hc)))).trans (I.base.keep b o e n hb hx)
  ·obtain ⟨sl,e1⟩:=I.base.slot b o e n hb hx
   exact ⟨sl,(hs.2 b (ne_of_lt (lt_of_lt_of_le (lt_size e) (I.ok.cab x c jO hc)))).trans e1⟩
  ·obtain ⟨o',e1⟩:=I.base.there b o e hx
   exact ⟨o',(hs.2 b (ne_of_lt (lt_of_lt_of_le (lt_size e) (I.ok.cab x c jO hc)))).trans e1⟩
  ·by_cases hj:j=i
   ·subst hj
    rw [hi] at e1;cases e1
    rw [List.getElem?_set_self jp] at e2
    cases e2
    exact ⟨u,r,.inr ⟨.inl hk,c,hc,aK⟩⟩
   ·rw [getElem?_set_ne (Ne.symm hj)] at e2
    obtain ⟨u',r',q⟩:=hl j y v' e1 e2 e3
    refine ⟨u',r',?_⟩
    rcases q with q | ⟨k,c',e,z'⟩
    ·exact .inl q
    ·refine .inr ⟨k,c',e,z'.sameBut hs ?_⟩
     rintro rfl
     exact hj (BD hN e1 (I.ok.inj _ _ _ e hc▸hi))
  ·by_cases jP:c'=c
   ·subst jP;exact ⟨_,aK⟩
   ·obtain ⟨w2,z2⟩:=I.cell y c' e
    exact ⟨w2,z2.sameBut hs jP⟩
  ·obtain ⟨e,n,ne,nf,d⟩:=I.pin p hp
   refine ⟨(hs.2 p.1 ?_).trans e,n,ne,nf,d⟩
   intro q
   rw [q,fV] at e
   have q':oc=p.2:=Option.some.inj e
   exact d w' (by rw [← q'];exact lI)
theorem By {M:Model}{A:Around}{E:Value->Shared->Prop}{i:Nat}{x:Str}{v:V}{u:Value}{Q:Unit->Shared->Prop} (I:Inv X aa U H s) (hN:X.N.Nodup) (hi:X.N[i]?=some x) (hx:Loc X.env.scope x) (r:RelV v u)
  (h:∀ s',Inv X aa (U.set i (some v)) H s'->Q () s') (hf:X.fn x=true\/X.env.scope.names.lookup x=some .local):wpAny M A (storeName X.env x u) Q E s :=
 DI I hN hi hx r (λs' I' _=>h s' I') hf
theorem Inv.call' {s':Shared}{ch:List Addr} (I:Inv X aa U H s) (ho:s'.os=s.os) (u:Un (frs X.stack) ch H H' s.heap s'.heap) (hok:HOk X.prog X.w H' s'.heap) (hg:AllBare s'.gens)
  (bq:∀ b∈ch,(b∈X.ex\/X.s₀.heap.objs.size<=b)/\b≠X.env.locals/\(∀ x c,X.env.cells.lookup x=some c->c≠b)/\∀ p∈X.pn++aa,p.1≠b):Inv X aa U H' s':=by
 obtain ⟨h',g',d',t',o'⟩:=s'
 have e:o'=s.os:=ho
 subst e
 exact I.call (g':=g') (t':=t') (d':=d') u hok hg bq
end
abbrev XK:=Value->Option Addr->Hp->Prop
abbrev St:=List (Option V)
abbrev VK:=V->Hp->Prop
abbrev TE:=St->Hp->VK->Prop
abbrev TT:=St->Hp->(Bool->Hp->Prop)->Prop
abbrev TA:=St->Hp->(List V->Hp->Prop)->Prop
structure Ends where
 nx:St->Hp->Prop
 rt:VK
 bk:St->Hp->Prop:=λ_ _=>False
 ct:St->Hp->Prop:=λ_ _=>False
abbrev TS:=Ends->St->Hp->Prop
def EP (X:Cx) (aa:List (Addr×Obj)) (U:St) (Q:VK) (u:Value) (s':Shared):Prop:=∃ v H',Inv X aa U H' s'/\RelV v u/\Q v H'
def TP (X:Cx) (aa:List (Addr×Obj)) (U:St) (Q:Bool->Hp->Prop) (b:Bool) (s':Shared):Prop:=∃ H',Inv X aa U H' s'/\Q b H'
def AP (X:Cx) (aa:List (Addr×Obj)) (U:St) (Q:List V->Hp->Prop) (us:List Value) (s':Shared):Prop:=∃ vs H',Inv X aa U H' s'/\Vals vs us/\Q vs H'
def SP (X:Cx) (aa:List (Addr×Obj)) (D:Ends) (f:Flow) (s':Shared):Prop :=
 match f with
 | .next=>∃ aj H',Inv X aa aj H' s'/\D.nx aj H'
 | .brk=>∃ aj H',Inv X aa aj H' s'/\D.bk aj H'
 | .cont=>∃ aj H',Inv X aa aj H' s'/\D.ct aj H'
 | .ret u=>∃ v aj H',Inv X aa aj H' s'/\RelV v u/\D.rt v H'
def PE (X:Cx) (e:Expr) (t:TE):Prop :=
 ∀ (aa:List (Addr×Obj)) (s:Shared) (U:St) (H:Hp) (Q:VK),Inv X aa U H s->t U H Q->wpAny (model X.prog X.w) X.A (eval e X.env) (EP X aa U Q) X.xe s
def PT (X:Cx) (e:Expr) (t:TT):Prop :=
 ∀ (aa:List (Addr×Obj)) (s:Shared) (U:St) (H:Hp) (Q:Bool->Hp->Prop),Inv X aa U H s->t U H Q->wpAny (model X.prog X.w) X.A (isTrue e X.env (eval e X.env)) (TP X aa U Q) X.xe s
def PW (X:Cx) (e:Expr) (t:TT):Prop :=
 ∀ (bL:Sem Value) (aa:List (Addr×Obj)) (s:Shared) (U:St) (H:Hp) (Q:Bool->Hp->Prop),Inv X aa U H s->t U H Q->wpAny (model X.prog X.w) X.A (isTrue e X.env bL) (TP X aa U Q) X.xe s
def PA (X:Cx) (es:List Expr) (t:TA):Prop :=
 ∀ (pos:Pos) (aa:List (Addr×Obj)) (s:Shared) (U:St) (H:Hp) (Q:List V->Hp->Prop),Inv X aa U H s->t U H Q->wpAny (model X.prog X.w) X.A (spliced (backTo pos (starEach es X.env))) (AP X aa U Q) X.xe s
def PS (X:Cx) (st:Stmt) (t:TS):Prop :=
 ∀ (aa:List (Addr×Obj)) (s:Shared) (U:St) (H:Hp) (D:Ends),Inv X aa U H s->t D U H->wpAny (model X.prog X.w) X.A (exec st X.env) (SP X aa D) X.xe s
def PSs (X:Cx) (st:List Stmt) (t:TS):Prop :=
 ∀ (aa:List (Addr×Obj)) (s:Shared) (U:St) (H:Hp) (D:Ends),Inv X aa U H s->t D U H->wpAny (model X.prog X.w) X.A (execs st X.env) (SP X aa D) X.xe s
theorem thn {α:Type}{t:Sem α}{Q Q':α->Shared->Prop}{M:Model}{A:Around}{E:Value->Shared->Prop}{s:Shared} (h:wpAny M A t Q E s) (hQ:∀ a s,Q a s->Q' a s):wpAny M A t Q' E s:=wpAny_mono h hQ λ_ _ x=>x
section
variable {X:Cx}
noncomputable def tVar (i:Nat):TE:=λU H Q=>∃ v,U[i]?=some (some v)/\Q v H
def tC (v:V):TE:=λ_ H Q=>Q v H
theorem Jz {i:Nat}{x:Str}{pos:Pos} (hN:X.N[i]?=some x) (hv:Vis X.env.scope x) (hd:(x == ("__debug__":Str))=false:=by decide) (aX:(x == ("__classdict__":Str))=false:=by decide):PE X (.Name x pos) (tVar i):=by
 intro aa s U H Q I h
 obtain ⟨v,e,h⟩:=h
 obtain ⟨m,hn,hl⟩:=I.loc
 obtain ⟨u,r,l⟩:=hl i x v hN e hv
 have fin:EP X aa U Q u s:=⟨v,H,I,r,h⟩
 rcases l with ⟨hk,hm⟩ | ⟨hk,c,hc,bU⟩
 ·exact wpAny_Name (wpAny_loadName_local I.ok.kind hk hn hm fin) hd
 ·rcases hk with hk | hk
  ·exact wpAny_Name (wpAny_loadName_cell I.ok.kind hk hc bU fin) hd
  ·exact wpAny_Name (wpAny_loadName_free I.ok.kind hk hc bU fin aX) hd
theorem Jp {i j pos}:PE X (.Constant (.int i) j pos) (tC (.int i)):=λ_ _ _ H _ I h=>wpAny_Constant_int ⟨.int i,H,I.tok _,⟨_,rfl⟩,h⟩
theorem Ib {b j pos}:PE X (.Constant (.bool b) j pos) (tC (.bl b)):=λ_ _ _ H _ I h=>Constant_bool ⟨.bl b,H,I,rfl,h⟩
theorem Lg {j pos}:PE X (.Constant .none j pos) (tC .non):=λ_ _ _ H _ I h=>Constant_none ⟨.non,H,I,rfl,h⟩
theorem IX {x j pos}:PE X (.Constant (.str x) j pos) (tC (.str x)):=λ_ _ _ H _ I h=>Calls.Constant_str ⟨.str x,H,I.tok _,⟨_,rfl⟩,h⟩
def Gl (X:Cx) (x:Str):Prop:=X.env.kindOf x=some .globalImplicit
theorem Gq {E:Value->Shared->Prop}{aa:List (Addr×Obj)}{s:Shared}{U:St}{H:Hp}{x:Str}{u:Value}{pos:Pos}{Q:Value->Shared->Prop} (I:Inv X aa U H s) (hg:Gl X x) (hm:X.mg x=some u) (h:Q u s)
  (hd:(x == ("__debug__":Str))=false:=by decide):wpAny (model X.prog X.w) X.A (eval (.Name x pos) X.env) Q E s :=
 Calls.Name_function_global I.ok.kind hg (Calls.loadGlobal_global (by rw [I.ok.glob];exact I.mod.glob.keeps I.bk) hm h) hd
theorem uy {E:Value->Shared->Prop}{aa:List (Addr×Obj)}{s:Shared}{U:St}{H:Hp}{x:Str}{u:Value}{pos:Pos}{Q:Value->Shared->Prop} (I:Inv X aa U H s) (hg:Gl X x) (hm:X.mg x=none) (hv:bootBuiltins x=some u) (h:Q u s)
  (hn:x ≠ "__name__":=by decide) (hd:(x == ("__debug__":Str))=false:=by decide):wpAny (model X.prog X.w) X.A (eval (.Name x pos) X.env) Q E s:=by
 obtain ⟨mb,h1,h2⟩:=I.mod.blt
 exact Calls.Name_function_global I.ok.kind hg (Calls.loadGlobal_builtin (by rw [I.ok.glob];exact I.mod.glob.keeps I.bk) hm (by rw [I.ok.blt];exact h1.keeps I.bk) ((h2 x hn).trans hv) h) hd
variable {a b:Expr}{ta tb:TE}{pos:Pos}
noncomputable def tB (t:TE):TT:=λU H Q=>t U H λx H1=>∃ c,x=.bl c/\Q c H1
theorem HG {e:Expr}{t:TE} (h:PE X e t) (he:∀ bL,isTrue e X.env bL=(do let v ← bL;standAt e.pos;holding [v] (truthy v)):=by intro _;rfl):PT X e (tB t):=by
 intro aa s U H Q I hw
 refine isTrue_plain (thn (h aa s U H _ I hw) λv s1 ⟨x,H1,I1,r1,q1⟩=>?_) (he _)
 obtain ⟨d,rfl,q⟩:=q1
 cases r1
 exact wpAny_truthy_bool ⟨H1,I1,q⟩
variable {tA ir:TT}{am:List Expr}
noncomputable def tAnd (t u:TT):TT:=λU H Q=>t U H λc H1=>if c=true then u U H1 Q else Q false H1
noncomputable def tOr (t u:TT):TT:=λU H Q=>t U H λc H1=>if c=true then Q true H1 else u U H1 Q
noncomputable def tNot (t:TT):TT:=λU H Q=>t U H λc H1=>Q (!c) H1
theorem Gy (ha:PT X a tA):PW X (.BoolOp .And [a] pos) tA:=by
 intro wh aa s U H Q I h
 refine isTrue_and (thn (ha aa s U H Q I h) λc s1 e=>?_)
 cases c with
 | true=>exact isTrue_and_nil e
 | false=>exact e
theorem KF (ha:PT X a tA):PW X (.BoolOp .Or [a] pos) tA:=by
 intro wh aa s U H Q I h
 refine isTrue_or (thn (ha aa s U H Q I h) λc s1 e=>?_)
 cases c with
 | false=>exact isTrue_or_nil e
 | true=>exact e
theorem J2 (ha:PT X a tA) (hb:PW X (.BoolOp .And (b::am) pos) ir):PW X (.BoolOp .And (a::b::am) pos) (tAnd tA ir):=by
 intro wh aa s U H Q I h
 refine isTrue_and (thn (ha aa s U H _ I h) λc s1 ⟨H1,I1,q1⟩=>?_)
 cases c with
 | true=>exact hb wh aa s1 U H1 Q I1 q1
 | false=>exact ⟨H1,I1,q1⟩
theorem HD (ha:PT X a tA) (hb:PW X (.BoolOp .Or (b::am) pos) ir):PW X (.BoolOp .Or (a::b::am) pos) (tOr tA ir):=by
 intro wh aa s U H Q I h
 refine isTrue_or (thn (ha aa s U H _ I h) λc s1 ⟨H1,I1,q1⟩=>?_)
 cases c with
 | true=>exact ⟨H1,I1,q1⟩
 | false=>exact hb wh aa s1 U H1 Q I1 q1
theorem EV (ha:PT X a tA):PT X (.UnaryOp .Not a pos) (tNot tA):=by
 intro aa s U H Q I h
 exact isTrue_not (ha aa s U H (λc H1=>Q (!c) H1) I h)
noncomputable def tAndV (ta tb:TE):TE:=λU H Q=>ta U H λx H1=>∃ c,x=.bl c/\if c=true then tb U H1 Q else Q (.bl false) H1
theorem LB {op}{t:TE} (h:PE X a t):PE X (.BoolOp op [a] pos) t:=λaa s U H Q I hw=>BoolOp_one (h aa s U H Q I hw)
theorem JH (ha:PE X a ta) (hb:PE X (.BoolOp .And (b::am) pos) tb):PE X (.BoolOp .And (a::b::am) pos) (tAndV ta tb):=by
 intro aa s U H Q I h
 refine BoolOp_and (thn (ha aa s U H _ I h) λv s1 ⟨x,H1,I1,r1,q1⟩=>?_)
 obtain ⟨c,rfl,q1⟩:=q1
 cases r1
 refine wpAny_truthy_bool ?_
 cases c with
 | true=>exact hb aa s1 U H1 Q I1 q1
 | false=>exact ⟨.bl false,H1,I1,rfl,q1⟩
end
def SqL (K:PySem.W.Frag) (H:Hp) (a:Addr) (xs:List V):Prop :=
 Rd H a (.lst xs) ∨
  ∃ (o:Obj) (ac:Array Value) (n:Nat),K.lookup a=some o/\o.cls=.type "list"/\o.dict=none/\o.data=.seq ac n/\ac.size<=sizeLine/\Vals xs ac.toList
def SqT (K:PySem.W.Frag) (H:Hp) (a:Addr) (xs:List V):Prop :=
 Rd H a (.tup xs) ∨
  ∃ (o:Obj) (ac:Array Value) (n:Nat),K.lookup a=some o/\o.cls=.type "tuple"/\o.data=.seq ac n/\ac.size<=sizeLine/\Vals xs ac.toList
noncomputable def absV:Value->Option V
 | .none=>some .non
 | .bool b=>some (.bl b)
 | .int i _=>some (.int i)
 | .str x _=>some (.str x)
 | .bytes b _=>some (.byt b)
 | .float b _=>some (.flt b)
 | .ref a=>some (.ref a)
 | .type n=>some (.ty n)
 | _=>none
theorem RelV.abs {x:V}{u:Value} (r:RelV x u):absV u=some x:=by
 cases x with
 | non=>cases r;rfl
 | bl _=>cases r;rfl
 | int _=>obtain ⟨t,rfl⟩:=r;rfl
 | str _=>obtain ⟨t,rfl⟩:=r;rfl
 | byt _=>obtain ⟨t,rfl⟩:=r;rfl
 | flt _=>obtain ⟨t,rfl⟩:=r;rfl
 | ref _=>cases r;rfl
 | ty _=>cases r;rfl
theorem RelV.inj {x y:V}{u:Value} (r:RelV x u) (q:RelV y u):x=y:=Option.some.inj (r.abs.symm.trans q.abs)
theorem Vals.inj:∀ {xs ys:List V}{us:List Value},Vals xs us->Vals ys us->xs=ys
 | _,_,_,.nil,.nil=>rfl
 | _,_,_,.cons r t,.cons r' t'=>by rw [r.inj r',Vals.inj t t']
section
variable {X:Cx}{aa:List (Addr×Obj)}{U:St}{H:Hp}{s:Shared}{a:Addr}{xs ys:List V}
theorem SqL.of {K:PySem.W.Frag} (h:H a=some (.lst xs)):SqL K H a xs:=.inl (.inl h)
theorem SqT.of {K:PySem.W.Frag} (h:H a=some (.tup xs)):SqT K H a xs:=.inl (.inl h)
theorem Inv.list (I:Inv X aa U H s) (h:SqL X.K H a xs):∃ ac:List Value,Vals xs ac/\PlainL s.heap a ac.toArray/\xs.length<=sizeLine:=by
 rcases h with h | ⟨o,ac,n,hk,hc,hd,hs,hz,r⟩
 ·obtain ⟨z,ac,n,r,e⟩:=h.ok I.hok
  exact ⟨ac,r,⟨_,n,e,rfl,rfl,rfl⟩,z⟩
 ·refine ⟨ac.toList,r,⟨o,n,I.kIn a o hk,hc,hd,by simpa using hs⟩,?_⟩
  have e:=r.length
  simp only [length_toList] at e
  omega
theorem Inv.tuple (I:Inv X aa U H s) (h:SqT X.K H a xs):∃ ac:List Value,Vals xs ac/\IsTup s.heap a ac.toArray/\xs.length<=sizeLine:=by
 rcases h with h | ⟨o,ac,n,hk,hc,hs,hz,r⟩
 ·obtain ⟨z,ac,r,p⟩:=h.ok I.hok
  exact ⟨ac,r,p,z⟩
 ·refine ⟨ac.toList,r,⟨o,I.kIn a o hk,hc,n,by simpa using hs⟩,?_⟩
  have e:=r.length
  simp only [length_toList] at e
  omega
theorem Inv.list_inj (I:Inv X aa U H s) (h:SqL X.K H a xs) (h':SqL X.K H a ys):xs=ys:=by
 obtain ⟨ac,r,⟨o,n,e,_,_,d⟩,_⟩:=I.list h
 obtain ⟨its',r',⟨o',n',e',_,_,d'⟩,_⟩:=I.list h'
 rw [e] at e';cases e'
 rw [d] at d'
 injection d' with d1 _
 have:ac=its':=by simpa using congrArg toList d1
 subst this
 exact r.inj r'
theorem Inv.tuple_inj (I:Inv X aa U H s) (h:SqT X.K H a xs) (h':SqT X.K H a ys):xs=ys:=by
 obtain ⟨ac,r,⟨o,e,_,n,d⟩,_⟩:=I.tuple h
 obtain ⟨its',r',⟨o',e',_,n',d'⟩,_⟩:=I.tuple h'
 rw [e] at e';cases e'
 rw [d] at d'
 injection d' with d1 _
 have:ac=its':=by simpa using congrArg toList d1
 subst this
 exact r.inj r'
end
noncomputable abbrev Cx.wish (X:Cx) (E:Value->Shared->Prop):Cx:={ X with xe:=E }
abbrev Cx.nox (X:Cx):Cx:=X.wish λ_ _=>False
theorem Cx.Ok.wish {X:Cx} (ok:X.Ok) (E:Value->Shared->Prop):(X.wish E).Ok :=
 ⟨ok.mod,ok.kind,ok.glob,ok.blt,ok.above,ok.inj,ok.has,ok.cab,ok.hd,ok.frames,ok.stk,ok.exf,ok.bs,ok.bsz,ok.noex,ok.exfs,ok.funs,ok.frf,ok.tb⟩
theorem Cx.Ok.unwish {X:Cx}{E:Value->Shared->Prop} (ok:(X.wish E).Ok):X.Ok :=
 ⟨ok.mod,ok.kind,ok.glob,ok.blt,ok.above,ok.inj,ok.has,ok.cab,ok.hd,ok.frames,ok.stk,ok.exf,ok.bs,ok.bsz,ok.noex,ok.exfs,ok.funs,ok.frf,ok.tb⟩
section
variable {X:Cx}{aa:List (Addr×Obj)}{U:St}{H:Hp}{s:Shared}{E:Value->Shared->Prop}
theorem Inv.wish (I:Inv X aa U H s) (E:Value->Shared->Prop):Inv (X.wish E) aa U H s:=⟨I.ok.wish E,I.os,I.bare,I.base,I.loc,I.cell,I.free,I.freeC,I.pin,I.hok,I.len⟩
theorem Inv.unwish (I:Inv (X.wish E) aa U H s):Inv X aa U H s:=⟨I.ok.unwish,I.os,I.bare,I.base,I.loc,I.cell,I.free,I.freeC,I.pin,I.hok,I.len⟩
theorem SP.unwish {D:Ends}{f:Flow}{s':Shared} (h:SP (X.wish E) aa D f s'):SP X aa D f s':=by
 cases f with
 | next=>obtain ⟨aj,H',I,q⟩:=h;exact ⟨aj,H',I.unwish,q⟩
 | brk=>obtain ⟨aj,H',I,q⟩:=h;exact ⟨aj,H',I.unwish,q⟩
 | cont=>obtain ⟨aj,H',I,q⟩:=h;exact ⟨aj,H',I.unwish,q⟩
 | ret u=>obtain ⟨v,aj,H',I,r,q⟩:=h;exact ⟨v,aj,H',I.unwish,r,q⟩
theorem PSs.nox {st:List Stmt}{t:TS} (h:PSs X.nox st t):PSs X st t:=λaa s U H D I hw =>
 wpAny_mono (h aa s U H D (I.wish _) hw) (λ_ _ q=>q.unwish) λ_ _ z=>elim z
end
section
variable {X:Cx}{st:Stmt}{am:List Stmt}{t u:TS}{e:Expr}{te:TE}{pos:Pos}
def tNext:TS:=λD U H=>D.nx U H
noncomputable def tSeq (t u:TS):TS:=λD U H=>t { D with nx:=u D } U H
theorem HF:PSs X [] tNext:=λ_ _ U H _ I h=>wpAny_execs_nil ⟨U,H,I,h⟩
theorem Js (h1:PS X st t) (h2:PSs X am u):PSs X (st::am) (tSeq t u):=by
 intro aa s U H D I h
 refine wpAny_execs_cons (thn (h1 aa s U H { D with nx:=u D } I h) λf s1 q=>?_)
 cases f with
 | next =>
  obtain ⟨aj,H',I',q⟩:=q
  exact h2 aa s1 aj H' D I' q
 | ret v=>exact q
 | brk=>exact q
 | cont=>exact q
theorem Gg (h1:PS X st t):PSs X [st] t:=by
 intro aa s U H D I h
 refine wpAny_execs_cons (thn (h1 aa s U H D I h) λf s1 q=>?_)
 cases f with
 | next=>exact wpAny_execs_nil q
 | ret v=>exact q
 | brk=>exact q
 | cont=>exact q
theorem Inv.quiet {aa:List (Addr×Obj)}{U:St}{H:Hp}{s:Shared} (I:Inv X aa U H s):interactive X.env=false:=by simp [interactive,I.ok.kind]
noncomputable def tDrop (te:TE):TS:=λD U H=>te U H λ_ H1=>D.nx U H1
theorem Ao (he:PE X e te) (hs:swapsWith e none pos.line X.env=pure false:=by rfl):PS X (.Expr e pos) (tDrop te):=by
 intro aa s U H D I h
 exact wpAny_Expr_any (thn (he aa s U H _ I h) λv s1 ⟨x,H1,I1,r1,q1⟩=>⟨U,H1,I1,q1⟩) I.quiet hs
def tRet (te:TE):TS:=λD U H=>te U H D.rt
theorem Bf (he:PE X e te):PS X (.Return (some e) pos) (tRet te):=by
 intro aa s U H D I h
 exact wpAny_Return_some (thn (he aa s U H _ I h) λv s1 ⟨x,H1,I1,r1,q1⟩=>⟨x,U,H1,I1,r1,q1⟩)
noncomputable def tIfS (c:TT) (t u:TS):TS:=λD U H=>c U H λb H1=>if b=true then t D U H1 else u D U H1
theorem GR {c:Expr}{a b:List Stmt}{tc:TT} (hc:PT X c tc) (ha:PSs X a t) (hb:PSs X b u):PS X (.If c a b pos) (tIfS tc t u):=by
 intro aa s U H D I h
 refine wpAny_If (thn (hc aa s U H _ I h) λd s1 ⟨H1,I1,q1⟩=>?_)
 cases d with
 | true=>exact ha aa s1 U H1 D I1 q1
 | false=>exact hb aa s1 U H1 D I1 q1
def tNever:TS:=λ_ _ _=>False
theorem J9:PS X st tNever:=λ_ _ _ _ _ _ h=>h.elim
end
abbrev TG:=V->St->Hp->(St->Hp->Prop)->Prop
abbrev TGs:=List V->St->Hp->(St->Hp->Prop)->Prop
def PG (X:Cx) (iu:Expr) (t:TG):Prop :=
 ∀ (aa:List (Addr×Obj)) (s:Shared) (U:St) (H:Hp) (v:V) (u:Value) (Q:St->Hp->Prop),Inv X aa U H s->RelV v u->t v U H Q →
  wpAny (model X.prog X.w) X.A (assign iu X.env u) (λ_ s'=>∃ aj H',Inv X aa aj H' s'/\Q aj H') X.xe s
def PGs (X:Cx) (ts:List Expr) (t:TGs):Prop :=
 ∀ (aa:List (Addr×Obj)) (s:Shared) (U:St) (H:Hp) (vs:List V) (us:List Value) (Q:St->Hp->Prop),Inv X aa U H s->Vals vs us->t vs U H Q →
  wpAny (model X.prog X.w) X.A (assignInOrder ((assignEach ts X.env).map (·.2)) us) (λ_ s'=>∃ aj H',Inv X aa aj H' s'/\Q aj H') X.xe s
abbrev TSet:=V->V->V->Hp->(Hp->Prop)->Prop
def PSet (X:Cx) (t:TSet):Prop :=
 ∀ (aa:List (Addr×Obj)) (s:Shared) (U:St) (H:Hp) (o i v:V) (ov iv u:Value) (Q:Hp->Prop),Inv X aa U H s->RelV o ov->RelV i iv->RelV v u->t o i v H Q →
  wpAny (model X.prog X.w) X.A (setItem ov iv u) (λ_ s'=>∃ H',Inv X aa U H' s'/\Q H') X.xe s
section
variable {X:Cx}{pos:Pos}
def gName (i:Nat):TG:=λv U H Q=>Q (U.set i (some v)) H
theorem IQ {i:Nat}{x:Str} (hN:X.N.Nodup) (hi:X.N[i]?=some x) (hx:Loc X.env.scope x) (hf:X.fn x=true\/X.env.scope.names.lookup x=some .local):PG X (.Name x pos) (gName i):=by
 intro aa s U H v u Q I r h
 exact wpAny_assign_Name (By I hN hi hx r (λs' I'=>⟨_,H,I',h⟩) hf)
def gNil:TGs:=λvs U H Q=>vs=[]/\Q U H
noncomputable def gCons (t:TG) (u:TGs):TGs:=λvs U H Q=>∃ v r,vs=v::r/\t v U H λaj H'=>u r aj H' Q
theorem GL:PGs X [] gNil:=by
 intro aa s U H vs us Q I r h
 obtain ⟨e,h⟩:=h
 subst e
 cases r
 exact assignInOrder_nil ⟨U,H,I,h⟩
theorem KY {e:Expr}{es:List Expr}{t:TG}{u:TGs} (h1:PG X e t) (h2:PGs X es u)
  (hs:(assignEach (e::es) X.env).map (·.2)=assign e X.env::(assignEach es X.env).map (·.2):=by rfl):PGs X (e::es) (gCons t u):=by
 intro aa s U H vs us Q I r h
 obtain ⟨v,vr,e1,h⟩:=h
 subst e1
 cases r with
 | cons r rr =>
  rw [hs]
  refine assignInOrder_cons (thn (h1 aa s U H _ _ _ I r h) λ_ s1 ⟨bZ,H1,I1,q1⟩=>?_)
  exact h2 aa s1 bZ H1 _ _ Q I1 rr q1
noncomputable def gTup (K:PySem.W.Frag) (n:Nat) (t:TGs):TG:=λv U H Q=>∃ a xs,v=.ref a/\SqT K H a xs/\xs.length=n/\t xs U H Q
theorem Ie {es:List Expr}{k:Nat}{t:TGs}{n:Nat} (hc:X.calm=true) (h:PGs X es t)
  (hn:(assignEach es X.env).length=n:=by rfl) (jQ:(assignEach es X.env).findIdx? (·.1)=none:=by rfl):PG X (.Tuple es k pos) (gTup X.K n t):=by
 intro aa s U H v u Q I r hw
 obtain ⟨a,xs,e1,hq,hl,hw⟩:=hw
 subst e1
 cases r
 obtain ⟨ac,rv,ht,hz⟩:=I.tuple hq
 refine assign_Tuple_tuple (I.ok.hd hc) ht (by simp [hn,← hl,rv.length]) jQ λh' hx=>?_
 have I1:Inv X aa U H { s with heap:=h' }:=I.kept (t':=s.toks) λb o e=>hx b o (ne_of_lt (lt_size e)) e
 exact h aa _ U H xs _ Q I1 (by simpa using rv) hw
noncomputable def gSub (to ti:TE) (t:TSet):TG:=λv U H Q=>to U H λo H1=>ti U H1 λi H2=>t o i v H2 λH3=>Q U H3
theorem HU {o i:Expr}{to ti:TE}{t:TSet} (ho:PE X o to) (hi:PE X i ti) (hs:PSet X t)
  (ha:∀ v,assign (.Subscript o i pos) X.env v=(do
   let ov ← holding [v] (eval o X.env)
   let iv ← holding [v,ov] (eval i X.env)
   standAt pos
   holding [v,ov,iv] (setItem ov iv v)
   release [v,ov,iv] []):=by intro _;rfl):PG X (.Subscript o i pos) (gSub to ti t):=by
 intro aa s U H v u Q I r h
 rw [ha]
 refine wpAny_bind (wpAny_holding (thn (ho aa s U H _ I h) λov s1 ⟨x,H1,I1,r1,q1⟩=>?_))
 refine wpAny_bind (wpAny_holding (thn (hi aa s1 U H1 _ I1 q1) λiv s2 ⟨y,H2,I2,r2,q2⟩=>?_))
 refine wpAny_bind (wpAny_standAt (wpAny_bind (wpAny_holding (thn (hs aa s2 U H2 x y v ov iv u _ I2 r1 r2 r q2) λ_ s3 ⟨H3,I3,q3⟩=>?_))))
 exact wpAny_release ⟨U,H3,I3,q3⟩
noncomputable def tAsg (te:TE) (g:TG):TS:=λD U H=>te U H λx H1=>g x U H1 D.nx
theorem CN {tg e:Expr}{te:TE}{g:TG} (he:PE X e te) (hg:PG X tg g) (hs:swapsWithSole [tg] e pos.line X.env=pure false:=by rfl) (hw:swappedStores [tg] e X.env=pure none:=by rfl)
  (h1:(assignEach [tg] X.env).map (·.2)=[assign tg X.env]:=by rfl):PS X (.Assign [tg] e pos) (tAsg te g):=by
 intro aa s U H D I h
 refine wpAny_Assign_stores (thn (he aa s U H _ I h) λv s1 ⟨x,H1,I1,r1,q1⟩=>?_) hs hw
 rw [h1]
 exact thn (hg aa s1 U H1 x v _ I1 r1 q1) λ_ s2 q=>q
theorem EC {i:Nat}{x:Str}{e:Expr}{te:TE}{aH:Pos} (hN:X.N.Nodup) (hi:X.N[i]?=some x) (hx:Loc X.env.scope x) (he:PE X e te) (hs:swapsWith e (some (.Name x aH)) pos.line X.env=pure false:=by rfl) (hf:X.fn x=true\/X.env.scope.names.lookup x=some .local) :
  PS X (.Assign [.Name x aH] e pos) (tAsg te (gName i)):=by
 intro aa s U H D I h
 refine wpAny_Assign_Name (thn (he aa s U H _ I h) λv s1 ⟨y,H1,I1,r1,q1⟩=>?_) hs
 exact By I1 hN hi hx r1 (λs2 I2=>⟨_,H1,I2,q1⟩) hf
end
section
variable {X:Cx}{pos:Pos}
noncomputable def tWhile (c:TT) (tb:TS):TS:=λD U H=>∃ W:Nat->St->Hp->Prop,(∃ m,W m U H)/\∀ m U H,W m U H →
 c U H λb H1=>if b=true then ∃ N:St->Hp->Prop,(∀ aj H',N aj H'->∃ m',m' < m/\W m' aj H')/\tb { D with nx:=N,ct:=N,bk:=D.nx } U H1 else D.nx U H1
theorem LG {c:Expr}{body:List Stmt}{tc:TT}{tb:TS} (hp:PassesOwn (model X.prog X.w) X.A X.env X.xe) (hc:PT X c tc) (hb:PSs X body tb):PS X (.While c body [] pos) (tWhile tc tb):=by
 intro aa s U H D I h
 obtain ⟨W,⟨m0,w0⟩,turn⟩:=h
 refine wpAny_While (codeAny_whileLoop (λn s'=>∃ aj H',Inv X aa aj H' s'/\W n aj H') ?_ m0 ⟨U,H,I,w0⟩)
 rintro n s1 ⟨bZ,H1,I1,w1⟩
 refine wpAny_passesOwn hp (thn (hc aa s1 bZ H1 _ I1 (turn n bZ H1 w1)) λb s2 ⟨H2,I2,q2⟩=>?_)
 cases b with
 | true =>
  obtain ⟨N,hN,q2⟩:=q2
  rw [if_pos rfl]
  refine wpAny_passesOwn hp (thn (hb aa s2 bZ H2 _ I2 q2) λf s3 q3=>?_)
  cases f with
  | next =>
   obtain ⟨cN,H3,I3,n3⟩:=q3
   obtain ⟨m',hm,w3⟩:=hN cN H3 n3
   exact ⟨m',hm,cN,H3,I3,w3⟩
  | cont =>
   obtain ⟨cN,H3,I3,n3⟩:=q3
   obtain ⟨m',hm,w3⟩:=hN cN H3 n3
   exact ⟨m',hm,cN,H3,I3,w3⟩
  | brk=>exact q3
  | ret v=>exact q3
 | false =>
  rw [if_neg Bool.false_ne_true]
  exact wpAny_execs_nil ⟨bZ,H2,I2,q2⟩
end
structure It where
 go:Nat->Hp->Prop
 yld:Nat->Hp->V->Hp->Prop
 stop:Nat->Hp->Prop
def FpOk (X:Cx) (aa:List (Addr×Obj)) (H:Hp) (b:Addr):Prop :=
 H b=none/\b≠X.env.locals/\b∉X.fs/\(b∈X.ex\/X.s₀.heap.objs.size<=b)/\(∀ x c,X.env.cells.lookup x=some c->c≠b)/\∀ p∈X.pn++aa,p.1≠b
theorem Inv.fpOk {X:Cx}{aa:List (Addr×Obj)}{U:St}{H H':Hp}{s:Shared}{b:Addr} (I:Inv X aa U H s) (hb:s.heap.objs.size<=b) (hn:H' b=none):FpOk X aa H' b:=by
 refine ⟨hn,ne_of_gt (lt_of_lt_of_le I.lt hb),I.nofs hb,.inr (le_trans I.sz hb),λx c e z=>?_,λp hp z=>?_⟩
 ·obtain ⟨v,q⟩:=I.cell x c e
  exact absurd (lt_of_lt_of_le q.lt (by rw [z];exact hb)) (lt_irrefl _)
 ·exact absurd (lt_of_lt_of_le (lt_size (I.pin p hp).1) (by rw [z];exact hb)) (lt_irrefl _)
structure Turn (P:Program) (w:World) (K:PySem.W.Frag) (tg:Expr) (J:It) (fp:List Addr) (it:Addr) (tn:Nat->Heap->Prop):Prop where
 mem:it∈fp
 obj:∀ i h,tn i h->∀ b∈fp,∃ o,h.get? b=some o/\∀ v,o.data≠.cell v
 keep:∀ i h h',tn i h->(∀ b∈fp,∀ o,h.get? b=some o->h'.get? b=some o)->tn i h'
 item:∀ (X:Cx),X.prog=P->X.w=w->X.K=K->X.calm=true->∀ (i:Nat) (aa:List (Addr×Obj)) (s:Shared) (U:St) (H:Hp) (E:Value->Shared->Prop),Inv X aa U H s->(∀ b∈fp,FpOk X aa H b)->tn i s.heap->J.go i H →
  wpAny (model P w) X.A (pyNext (.ref it)) (λr s1=>∃ u,r=some u ∧
   wpAny (model P w) X.A (letOwnedTupleGo tg (.ref it) u) (λ_ s2=>∃ x H',Inv X aa U H' s2/\RelV x u/\J.yld i H x H'/\tn (i+1) s2.heap/\∀ b∈fp,H' b=none) E s1) E s
 done:∀ (X:Cx),X.prog=P->X.w=w->X.K=K->X.calm=true->∀ (i:Nat) (aa:List (Addr×Obj)) (s:Shared) (U:St) (H:Hp) (E:Value->Shared->Prop),Inv X aa U H s->(∀ b∈fp,FpOk X aa H b)->tn i s.heap->J.stop i H →
  wpAny (model P w) X.A (pyNext (.ref it)) (λr s1=>r=none/\Inv X aa U H s1) E s
 self:∀ (A:Around) (i:Nat) (s:Shared) (Q:Value->Shared->Prop) (E:Value->Shared->Prop),tn i s.heap->Q (.ref it) s->wpAny (model P w) A (pyIter (.ref it)) Q E s
abbrev TI:=St->Hp->(It->Hp->Prop)->Prop
def PIE (X:Cx) (aa:List (Addr×Obj)) (U:St) (tg:Expr) (R:It->Hp->Prop) (iw:Value) (s2:Shared):Prop :=
 ∃ (it:Addr) (fp:List Addr) (tn:Nat->Heap->Prop) (J:It) (H':Hp),iw=.ref it/\Inv X aa U H' s2/\Turn X.prog X.w X.K tg J fp it tn/\tn 0 s2.heap/\(∀ b∈fp,FpOk X aa H' b)/\R J H'
def PI (X:Cx) (tg iter:Expr) (wi:TI):Prop :=
 ∀ (aa:List (Addr×Obj)) (s:Shared) (U:St) (H:Hp) (R:It->Hp->Prop),Inv X aa U H s->wi U H R →
  wpAny (model X.prog X.w) X.A (eval iter X.env) (λv s1=>wpAny (model X.prog X.w) X.A (pyIter v) (PIE X aa U tg R) X.xe s1) X.xe s
theorem yj {M:Model}{A:Around}{E:Value->Shared->Prop}{s:Shared}{tg:Expr}{it:Addr}{u:Value}{o:Obj}{n:String}{vs:Array Value}{Q:Unit->Shared->Prop} (ho:s.heap.get? it=some o) (hc:o.cls=.type n) (hd:o.data=.fields vs)
  (hn:["enumerate", "zip", "dict_itemiterator", "dict_reverseitemiterator", "odict_iterator", "itertools.zip_longest", "itertools.pairwise"].contains n=false) (hQ:Q () s):wpAny M A (letOwnedTupleGo tg (.ref it) u) Q E s:=by
 unfold letOwnedTupleGo
 cases tg<;>first
  | exact wpAny_pure hQ
  | (cases u<;>first
    | exact wpAny_pure hQ
    | (refine wpAny_bind (wpAny_load ho ?_)
       rw [hc,hd]
       show wpAny M A (if (["enumerate", "zip", "dict_itemiterator", "dict_reverseitemiterator", "odict_iterator", "itertools.zip_longest", "itertools.pairwise"].contains n&&vs[0]? == some (rawInt _))=true then _ else _) Q E s
       rw [if_neg (by intro h;rw [hn,Bool.false_and] at h;cases h)]
       exact wpAny_pure hQ))
noncomputable def Itl (K:PySem.W.Frag) (a:Addr):It :=
 ⟨λi H=>∃ xs x,SqL K H a xs/\xs[i]?=some x,λi H x H'=>H'=H/\∀ xs,SqL K H a xs->xs[i]?=some x,λi H=>∃ xs,SqL K H a xs/\xs.length<=i⟩
noncomputable def Itt (K:PySem.W.Frag) (a:Addr):It :=
 ⟨λi H=>∃ xs x,SqT K H a xs/\xs[i]?=some x,λi H x H'=>H'=H/\∀ xs,SqT K H a xs->xs[i]?=some x,λi H=>∃ xs,SqT K H a xs/\xs.length<=i⟩
noncomputable def Itr (lo:Int) (n:Nat):It:=⟨λi _=>i < n,λi H x H'=>H'=H/\x=.int (lo+i),λi _=>n<=i⟩
theorem FI {P:Program}{w:World}{K:PySem.W.Frag}{tg:Expr} (a it:Addr):Turn P w K tg (Itl K a) [it] it (λi h=>h.IsListIter it a i) where
 mem:=by simp
 obj:=λi h st b hb=>by
  have e:b=it:=by simpa using hb
  subst e
  obtain ⟨o,e,c,d⟩:=st
  exact ⟨o,e,λv z=>by rw [d] at z;cases z⟩
 keep:=λi h h' st k=>st.at λo e=>k it (by simp) o e
 item:=by
  intro X hP hw hK hc i aa s U H E I hf st hg
  subst hP hw hK
  obtain ⟨xs,x,hq,hx⟩:=hg
  obtain ⟨ac,rv,p,hz⟩:=I.list hq
  obtain ⟨u,hu,ru⟩:=rv.get hx
  obtain ⟨f0,f1,f2,f3,f4,f5⟩:=hf it (by simp)
  refine wpAny_pyNext_list_item st p.isList (x:=u) (by simpa using hu) λh' dP sb=>?_
  have I1:Inv X aa U H { s with heap:=h' }:=I.turned (t':=s.toks) (λb o hb e=>(sb.2 b hb).trans e) f0 f1 f3 f4 f5
  obtain ⟨o,e,c,d⟩:=id dP
  exact ⟨u,rfl,yj (s:={ s with heap:=h' }) e c d (by decide) ⟨x,H,I1,ru,⟨rfl,λys hy=>by rw [I.list_inj hy hq];exact hx⟩,dP,λb hb=>(hf b hb).1⟩⟩
 done:=by
  intro X hP hw hK hc i aa s U H E I hf st hg
  subst hP hw hK
  obtain ⟨xs,hq,hx⟩:=hg
  obtain ⟨ac,rv,p,hz⟩:=I.list hq
  obtain ⟨f0,f1,f2,f3,f4,f5⟩:=hf it (by simp)
  have hl:=rv.length
  exact wpAny_pyNext_list_end (I.ok.hd hc) st p.isList (by simp;omega) λh' eb=>⟨rfl,I.turned (t':=s.toks) (λb o hb e=>eb b o hb e) f0 f1 f3 f4 f5⟩
 self:=λ_ _ _ _ _ st h=>wpAny_pyIter_listiter st h
theorem Lv {P:Program}{w:World}{K:PySem.W.Frag}{tg:Expr} (a it:Addr):Turn P w K tg (Itt K a) [it] it (λi h=>h.IsTupleIter it a i) where
 mem:=by simp
 obj:=λi h st b hb=>by
  have e:b=it:=by simpa using hb
  subst e
  obtain ⟨o,e,c,d⟩:=st
  exact ⟨o,e,λv z=>by rw [d] at z;cases z⟩
 keep:=λi h h' st k=>st.at λo e=>k it (by simp) o e
 item:=by
  intro X hP hw hK hc i aa s U H E I hf st hg
  subst hP hw hK
  obtain ⟨xs,x,hq,hx⟩:=hg
  obtain ⟨ac,rv,p,hz⟩:=I.tuple hq
  obtain ⟨u,hu,ru⟩:=rv.get hx
  obtain ⟨f0,f1,f2,f3,f4,f5⟩:=hf it (by simp)
  refine wpAny_pyNext_tuple_item st (show s.heap.IsTuple a ac.toArray from p) (x:=u) (by simpa using hu) λh' dP sb=>?_
  have I1:Inv X aa U H { s with heap:=h' }:=I.turned (t':=s.toks) (λb o hb e=>(sb.2 b hb).trans e) f0 f1 f3 f4 f5
  obtain ⟨o,e,c,d⟩:=id dP
  exact ⟨u,rfl,yj (s:={ s with heap:=h' }) e c d (by decide) ⟨x,H,I1,ru,⟨rfl,λys hy=>by rw [I.tuple_inj hy hq];exact hx⟩,dP,λb hb=>(hf b hb).1⟩⟩
 done:=by
  intro X hP hw hK hc i aa s U H E I hf st hg
  subst hP hw hK
  obtain ⟨xs,hq,hx⟩:=hg
  obtain ⟨ac,rv,p,hz⟩:=I.tuple hq
  obtain ⟨f0,f1,f2,f3,f4,f5⟩:=hf it (by simp)
  have hl:=rv.length
  exact wpAny_pyNext_tuple_end (I.ok.hd hc) st (show s.heap.IsTuple a ac.toArray from p) (by simp;omega) λh' eb=>⟨rfl,I.turned (t':=s.toks) (λb o hb e=>eb b o hb e) f0 f1 f3 f4 f5⟩
 self:=λ_ _ _ _ _ st h=>wpAny_pyIter_tupleiter st h
theorem Ly {P:Program}{w:World}{K:PySem.W.Frag}{tg:Expr} (it:Addr) (lo:Int) (n:Nat):Turn P w K tg (Itr lo n) [it] it (λi h=>IsRangeIter h it (lo+(i:Nat)*1) ((n:Int) - (i:Nat)) 1) where
 mem:=by simp
 obj:=λi h st b hb=>by
  have e:b=it:=by simpa using hb
  subst e
  exact ⟨_,st,λv z=>by
   have z':fields _=Data.cell v:=z
   cases z'⟩
 keep:=λi h h' st k=>k it (by simp) _ st
 item:=by
  intro X hP hw hK hc i aa s U H E I hf st hg
  subst hP hw hK
  obtain ⟨f0,f1,f2,f3,f4,f5⟩:=hf it (by simp)
  have W:=Walks.range (prog:=X.prog) (w:=X.w) (I.ok.hd hc) it lo 1 n
  refine W.item i s _ _ hg st λv h' tk hv dP kk=>?_
  obtain ⟨t,rfl⟩:=hv
  have I1:Inv X aa U H { s with heap:=h',toks:=tk }:=I.turned (λb o hb e=>kk b o (by simpa using hb) e) f0 f1 f3 f4 f5
  refine ⟨_,rfl,yj (s:={ s with heap:=h',toks:=tk }) (n := "range_iterator") dP rfl rfl (by decide) ⟨.int (lo+i),H,I1,⟨t,?_⟩,⟨rfl,rfl⟩,dP,λb hb=>(hf b hb).1⟩⟩
  rw [Int.mul_one]
 done:=by
  intro X hP hw hK hc i aa s U H E I hf st hg
  subst hP hw hK
  obtain ⟨f0,f1,f2,f3,f4,f5⟩:=hf it (by simp)
  exact wpAny_pyNext_range_end (I.ok.hd hc) st (by have:n<=i:=hg;omega) λh' eb=>⟨rfl,I.turned (t':=s.toks) (λb o hb e=>eb b o hb e) f0 f1 f3 f4 f5⟩
 self:=λ_ _ _ _ _ st h=>wpAny_pyIter_rangeiter st h
section
variable {X:Cx}{tg:Expr}
theorem Ej {aa:List (Addr×Obj)}{U:St}{H:Hp}{s:Shared}{R:It->Hp->Prop}{E:Value->Shared->Prop}{lo hi:Int}{t u v:Tok}{tk:Nat} (I:Inv X aa U H s) (h1:-(2 ^ 62)<=lo) (h2:lo < 2 ^ 62) (h3:-(2 ^ 62)<=hi) (h4:hi < 2 ^ 62)
  (q:R (Itr lo (hi - lo).toNat) H):wpAny (model X.prog X.w) X.A (pyIter (.ref s.heap.objs.size)) (PIE X aa U tg R) E { s with heap:=s.heap.push { cls:=.type "range", data:=.fields #[.int lo t,.int hi u,.int 1 v] },toks:=tk }:=by
 refine wpAny_pyIter_range (IsRange.new ..) (small_one h1 h2 h3 h4) ?_
 have I1:Inv X aa U H { s with heap:=s.heap.push { cls:=.type "range", data:=.fields #[.int lo t,.int hi u,.int 1 v] },toks:=tk }:=I.kept λb o e=>get?_push_of_some _ e
 refine ⟨(s.heap.push { cls:=.type "range", data:=.fields #[.int lo t,.int hi u,.int 1 v] }).objs.size,[(s.heap.push { cls:=.type "range", data:=.fields #[.int lo t,.int hi u,.int 1 v] }).objs.size],_,_,H,rfl,
  I1.kept (t':=tk) λb o e=>get?_push_of_some _ e,Ly _ lo (hi - lo).toNat,?_,λb hb=>?_,q⟩
 ·have e1:lo+((0:Nat):Int)*1=lo:=by simp
  have e2:(((hi - lo).toNat:Nat):Int) - ((0:Nat):Int)=rangeSize lo hi 1:=by rw [rangeSize_one];split<;>omega
  show IsRangeIter _ _ (lo+((0:Nat):Int)*1) ((((hi - lo).toNat:Nat):Int) - ((0:Nat):Int)) 1
  rw [e1,e2]
  exact get?_push_size _ rfl
 ·have e:b=(s.heap.push { cls:=.type "range", data:=.fields #[.int lo t,.int hi u,.int 1 v] }).objs.size:=by simpa using hb
  subst e
  exact I1.fpOk (le_refl _) (I1.hok.fresh (le_refl _))
noncomputable def iRng1 (ta:TA):TI:=λU H R=>ta U H λvs H1=>∃ j:Int,vs=[.int j]/\-(2 ^ 62)<=j/\j < 2 ^ 62/\R (Itr 0 j.toNat) H1
noncomputable def iRng2 (ta:TA):TI:=λU H R=>ta U H λvs H1=>∃ i j:Int,vs=[.int i,.int j]/\(-(2 ^ 62)<=i/\i < 2 ^ 62/\-(2 ^ 62)<=j/\j < 2 ^ 62)/\R (Itr i (j - i).toNat) H1
theorem Kk {a:Expr}{ta:TA}{p pos:Pos} (hg:Gl X "range") (hm:X.mg "range"=none) (ha:PA X [a] ta) (hs:starEach [a] X.env=[(false,eval a X.env)]:=by rfl):PI X tg (.Call (.Name "range" p) [a] [] pos) (iRng1 ta):=by
 intro aa s U H R I h
 refine Call_ (uy I hg hm boot_range (PyProof.Rows.callWith_type1 (thn (ha pos aa s U H _ I h) λus s1 ⟨vs,H1,I1,r1,q1⟩=>?_) hs rfl))
 obtain ⟨j,e,q1,q2,q⟩:=q1
 subst e
 cases r1 with
 | cons r rr =>
  cases rr
  obtain ⟨t,rfl⟩:=r
  exact call_range_1 (Ej I1 (by omega) (by omega) q1 q2 (by simpa using q))
theorem Mm {a b:Expr}{ta:TA}{p pos:Pos} (hg:Gl X "range") (hm:X.mg "range"=none) (ha:PA X [a,b] ta) (hs:starEach [a,b] X.env=[(false,eval a X.env),(false,eval b X.env)]:=by rfl) (b9:starEach [b] X.env=[(false,eval b X.env)]:=by rfl) :
  PI X tg (.Call (.Name "range" p) [a,b] [] pos) (iRng2 ta):=by
 intro aa s U H R I h
 refine Call_ (uy I hg hm boot_range (PyProof.Rows.callWith_type1 (thn (ha pos aa s U H _ I h) λus s1 ⟨vs,H1,I1,r1,q1⟩=>?_) (by rw [hs,b9]) (by rw [b9];rfl)))
 obtain ⟨i,j,e,⟨q1,q2,q3,q4⟩,q⟩:=q1
 subst e
 cases r1 with
 | cons r rr =>
  cases rr with
  | cons r' rr =>
   cases rr
   obtain ⟨t,rfl⟩:=r
   obtain ⟨t',rfl⟩:=r'
   exact call_range_2 (Ej I1 q1 q2 q3 q4 q)
noncomputable def tFor (wi:TI) (g:TG) (tb:TS):TS:=λD U H=>wi U H λJ H1=>∃ W:Nat->Nat->St->Hp->Prop,(∃ m,W 0 m U H1)/\∀ i m U H,W i m U H →
 (J.stop i H/\D.nx U H)\/(J.go i H/\∃ N:St->Hp->Prop,(∀ aj H',N aj H'->∃ m',m' < m/\W (i+1) m' aj H')/\∀ x H',J.yld i H x H'->g x U H' λaW H2=>tb { D with nx:=N,ct:=N,bk:=D.nx } aW H2)
noncomputable def pinsAt (fp:List Addr) (h:Heap):List (Addr×Obj):=fp.filterMap λb=>(h.get? b).map λo=>(b,o)
theorem xY {fp:List Addr}{h:Heap}{b:Addr}{o:Obj} (hb:b∈fp) (e:h.get? b=some o):(b,o)∈pinsAt fp h:=mem_filterMap.mpr ⟨b,hb,by rw [e];rfl⟩
theorem HV {fp:List Addr}{h:Heap}{p:Addr×Obj} (hp:p∈pinsAt fp h):p.1∈fp/\h.get? p.1=some p.2:=by
 obtain ⟨b,hb,e⟩:=mem_filterMap.mp hp
 cases q:h.get? b with
 | none=>rw [q] at e;cases e
 | some o =>
  rw [q] at e
  have e':(b,o)=p:=Option.some.inj e
  subst e'
  exact ⟨hb,q⟩
theorem Inv.pinned {aa:List (Addr×Obj)}{U:St}{H:Hp}{s:Shared}{fp:List Addr} (I:Inv X aa U H s) (hf:∀ b∈fp,FpOk X aa H b) (ho:∀ b∈fp,∃ o,s.heap.get? b=some o/\∀ v,o.data≠.cell v):Inv X (aa++pinsAt fp s.heap) U H s :=
 I.pins_of λp hp=>(mem_append.mp hp).elim (λz=>I.pin p (mem_append_right _ z)) λz=>by
  obtain ⟨hb,e⟩:=HV z
  obtain ⟨f0,f1,f2,_⟩:=hf p.1 hb
  obtain ⟨o,e',d⟩:=ho p.1 hb
  rw [e] at e';cases e'
  exact ⟨e,f0,f1,f2,d⟩
theorem Inv.unpinned {aa pl:List (Addr×Obj)}{U:St}{H:Hp}{s:Shared} (I:Inv X (aa++pl) U H s):Inv X aa U H s:=I.pins_of λp hp=>I.pin p (mem_append_right _ (mem_append_left _ hp))
theorem Go {iter:Expr}{body:List Stmt}{wi:TI}{g:TG}{tb:TS}{pos:Pos} (hp:PassesOwn (model X.prog X.w) X.A X.env X.xe) (hc:X.calm=true) (hi:PI X tg iter wi) (hg:PG X tg g) (hb:PSs X body tb)
  (hs:∀ x,foldedSetIterable iter X.env x=pure x:=by intro _;rfl):PS X (.For tg iter body [] pos) (tFor wi g tb):=by
 intro aa s U H D I h
 refine wpAny_For (thn (hi aa s U H _ I h) λv s1 h1=>thn h1 λiw s2 h2=>?_) hs
 obtain ⟨it,fp,tn,J,H2,e,I2,T,dQ,f2,W,⟨m0,w0⟩,turn⟩:=h2
 subst e
 -- what stays true of the iterator's objects through the aI
 have cP:∀ {H':Hp},(∀ b∈fp,H' b=none)->∀ b∈fp,FpOk X aa H' b:=λhn b hb=>⟨hn b hb,(f2 b hb).2⟩
 refine codeAny_forLoop_any (λn s'=>∃ i aj H',Inv X aa aj H' s'/\tn i s'.heap/\(∀ b∈fp,H' b=none)/\W i n aj H') ?_ m0 ⟨0,U,H2,I2,dQ,λb hb=>(f2 b hb).1,w0⟩
 rintro n s3 ⟨i,cN,H3,I3,fH,lJ,w3⟩
 rcases turn i n cN H3 w3 with ⟨stop,qn⟩ | ⟨go,N,hN,step⟩
 ·refine wpAny_passesOwn hp (thn (T.done X rfl rfl rfl hc i aa s3 cN H3 X.xe I3 (cP lJ) fH stop) λr s4 ⟨hr,I4⟩=>?_)
  subst hr
  exact wpAny_execs_nil ⟨cN,H3,I4,qn⟩
 ·refine wpAny_passesOwn hp (thn (T.item X rfl rfl rfl hc i aa s3 cN H3 X.xe I3 (cP lJ) fH go) λr s4 ⟨u,hr,h4⟩=>?_)
  subst hr
  refine wpAny_passesOwn hp (thn h4 λ_ s5 ⟨x,H5,I5,r5,y5,fI,iy⟩=>?_)
  have oC:=I5.pinned (cP iy) (T.obj _ _ fI)
  refine wpAny_passesOwn hp (thn (hg _ s5 cN H5 x u _ oC r5 (step x H5 y5)) λ_ s6 ⟨oD,H6,I6,q6⟩=>?_)
  refine wpAny_passesOwn hp (thn (hb _ s6 oD H6 _ I6 q6) λf s7 q7=>?_)
  have again:∀ {cQ:St}{H7:Hp},Inv X (aa++pinsAt fp s5.heap) cQ H7 s7->N cQ H7->∃ m,m < n/\∃ i aj H',Inv X aa aj H' s7/\tn i s7.heap/\(∀ b∈fp,H' b=none)/\W i m aj H':=λ{cQ H7} I7 n7=>by
   obtain ⟨m',hm,w7⟩:=hN cQ H7 n7
   refine ⟨m',hm,i+1,cQ,H7,I7.unpinned,T.keep _ _ _ fI λb hb o e=>(I7.pin (b,o) (mem_append_right _ (mem_append_right _ (xY hb e)))).1,λb hb=>?_,w7⟩
   obtain ⟨o,e,d⟩:=T.obj _ _ fI b hb
   exact (I7.pin (b,o) (mem_append_right _ (mem_append_right _ (xY hb e)))).2.1
  cases f with
  | next=>obtain ⟨cQ,H7,I7,n7⟩:=q7;exact again I7 n7
  | cont=>obtain ⟨cQ,H7,I7,n7⟩:=q7;exact again I7 n7
  | brk=>obtain ⟨cQ,H7,I7,q7⟩:=q7;exact ⟨cQ,H7,I7.unpinned,q7⟩
  | ret v=>obtain ⟨x7,cQ,H7,I7,r7,q7⟩:=q7;exact ⟨x7,cQ,H7,I7.unpinned,r7,q7⟩
end
abbrev R2:=V->V->Hp->VK->Prop
def OpR (X:Cx) (f:Value->Value->Sem Value) (r:R2):Prop :=
 ∀ (aa:List (Addr×Obj)) (s:Shared) (U:St) (H:Hp) (x y:V) (v u:Value) (Q:VK),Inv X aa U H s->RelV x v->RelV y u->r x y H Q →
  wpAny (model X.prog X.w) X.A (f v u) (EP X aa U Q) X.xe s
def UnR (X:Cx) (f:Value->Sem Value) (r:V->Hp->VK->Prop):Prop :=
 ∀ (aa:List (Addr×Obj)) (s:Shared) (U:St) (H:Hp) (x:V) (v:Value) (Q:VK),Inv X aa U H s->RelV x v->r x H Q →
  wpAny (model X.prog X.w) X.A (f v) (EP X aa U Q) X.xe s
def CallR (X:Cx) (f:Value) (r:List V->Hp->VK->Prop):Prop :=
 ∀ (aa:List (Addr×Obj)) (s:Shared) (U:St) (H:Hp) (xs:List V) (us:List Value) (Q:VK),Inv X aa U H s->Vals xs us->r xs H Q →
  wpAny (model X.prog X.w) X.A (call f us) (EP X aa U Q) X.xe s
noncomputable def tOp (r:R2) (ta tb:TE):TE:=λU H Q=>ta U H λx H1=>tb U H1 λy H2=>r x y H2 Q
noncomputable def tUn (r:V->Hp->VK->Prop) (ta:TE):TE:=λU H Q=>ta U H λx H1=>r x H1 Q
noncomputable def rI (C:Int->Int->Prop) (g:Int->Int->V):R2:=λx y H Q=>∃ i j,x=.int i/\y=.int j/\C i j/\Q (g i j) H
noncomputable def rI0 (g:Int->Int->V):R2:=λx y H Q=>∃ i j,x=.int i/\y=.int j/\Q (g i j) H
def rU (g:Int->V):V->Hp->VK->Prop:=λx H Q=>∃ i,x=.int i/\Q (g i) H
section
variable {X:Cx}{a b c:Expr}{ta tb tc:TE}{pos:Pos}
theorem binT (ha:PE X a ta) (hb:PE X b tb){aa:List (Addr×Obj)}{s:Shared}{U:St}{H:Hp}{R:V->V->Hp->Prop} (I:Inv X aa U H s)
  (h:ta U H λx H1=>tb U H1 λy H2=>R x y H2){Q:Value->Shared->Prop}{f:Value->Value->Sem Value}
  (hf:∀ v u s2 x y H2,Inv X aa U H2 s2->RelV x v->RelV y u->R x y H2->wpAny (model X.prog X.w) X.A (f v u) Q X.xe s2) :
  wpAny (model X.prog X.w) X.A (eval a X.env) (λv ax=>wpAny (model X.prog X.w) X.A (eval b X.env) (λu dR=>wpAny (model X.prog X.w) X.A (f v u) Q X.xe dR) X.xe ax) X.xe s:=by
 refine thn (ha aa s U H _ I h) λv s1 ⟨x,H1,I1,r1,q1⟩=>?_
 refine thn (hb aa s1 U H1 _ I1 q1) λu s2 ⟨y,H2,I2,r2,q2⟩=>?_
 exact hf v u s2 x y H2 I2 r1 r2 q2
theorem Cm {op:Operator}{r:R2} (ho:OpR X (binaryOp op) r) (ha:PE X a ta) (hb:PE X b tb):PE X (.BinOp a op b pos) (tOp r ta tb):=by
 intro aa s U H Q I h
 exact wpAny_BinOp (binT ha hb I h λv u s2 x y H2 I2 rx ry q=>ho aa s2 U H2 x y v u Q I2 rx ry q)
theorem GM {op:UnaryOp}{r:V->Hp->VK->Prop} (ho:UnR X (unaryOp op) r) (ha:PE X a ta):PE X (.UnaryOp op a pos) (tUn r ta):=by
 intro aa s U H Q I h
 exact UnaryOp_ (thn (ha aa s U H _ I h) λv s1 ⟨x,H1,I1,r1,q1⟩=>ho aa s1 U H1 x v Q I1 r1 q1)
theorem opI {f:Value->Value->Sem Value}{C:Int->Int->Prop}{g:Int->Int->Int}
  (rule:∀ (i j:Int) (t u:Tok) (s:Shared) (Q:Value->Shared->Prop) (E:Value->Shared->Prop),C i j->Q (.int (g i j) s.toks) { s with toks:=s.toks+1 }->wpAny (model X.prog X.w) X.A (f (.int i t) (.int j u)) Q E s) :
  OpR X f (rI C λi j=>.int (g i j)):=by
 intro aa s U H x y v u Q I rx ry h
 obtain ⟨i,j,rfl,rfl,hc,q⟩:=h
 obtain ⟨t,rfl⟩:=rx
 obtain ⟨t',rfl⟩:=ry
 exact rule i j t t' s _ _ hc ⟨.int (g i j),H,I.tok _,⟨_,rfl⟩,q⟩
theorem opI0 {f:Value->Value->Sem Value}{g:Int->Int->Int}
  (rule:∀ (i j:Int) (t u:Tok) (s:Shared) (Q:Value->Shared->Prop) (E:Value->Shared->Prop),Q (.int (g i j) s.toks) { s with toks:=s.toks+1 }->wpAny (model X.prog X.w) X.A (f (.int i t) (.int j u)) Q E s) :
  OpR X f (rI0 λi j=>.int (g i j)):=by
 intro aa s U H x y v u Q I rx ry h
 obtain ⟨i,j,rfl,rfl,q⟩:=h
 obtain ⟨t,rfl⟩:=rx
 obtain ⟨t',rfl⟩:=ry
 exact rule i j t t' s _ _ ⟨.int (g i j),H,I.tok _,⟨_,rfl⟩,q⟩
theorem opB0 {f:Value->Value->Sem Value}{g:Int->Int->Bool}
  (rule:∀ (i j:Int) (t u:Tok) (s:Shared) (Q:Value->Shared->Prop) (E:Value->Shared->Prop),Q (.bool (g i j)) s->wpAny (model X.prog X.w) X.A (f (.int i t) (.int j u)) Q E s) :
  OpR X f (rI0 λi j=>.bl (g i j)):=by
 intro aa s U H x y v u Q I rx ry h
 obtain ⟨i,j,rfl,rfl,q⟩:=h
 obtain ⟨t,rfl⟩:=rx
 obtain ⟨t',rfl⟩:=ry
 exact rule i j t t' s _ _ ⟨.bl (g i j),H,I,rfl,q⟩
def CPow (i j:Int):Prop:=0<=j/\j<=1000000/\i.natAbs < 2 ^ 64
def CMul (i j:Int):Prop:=(-(2 ^ 64) < i/\i < 2 ^ 64)\/(-(2 ^ 64) < j/\j < 2 ^ 64)
theorem CMul.ok {i j:Int} (h:CMul i j):IntMulOk i j:=by
 rcases h with ⟨h1,h2⟩ | ⟨h1,h2⟩
 ·exact .of_left (intBits_le_64 h1 h2)
 ·exact .of_right (intBits_le_64 h1 h2)
theorem Kp:OpR X (binaryOp .Add) (rI0 λi j=>.int (i+j)):=opI0 λ_ _ _ _ _ _ _ q=>add_int q
theorem IL:OpR X (binaryOp .Sub) (rI0 λi j=>.int (i - j)):=opI0 λ_ _ _ _ _ _ _ q=>sub_int q
theorem Lb:OpR X (binaryOp .Mult) (rI CMul λi j=>.int (i*j)):=opI λ_ _ _ _ _ _ _ hc q=>mul_int q hc.ok
theorem Il:OpR X (binaryOp .Mod) (rI (λ_ j=>0 < j) λi j=>.int (i % j)):=opI λi j _ _ _ _ _ hc q=>by
 have h1:(0:Int) < j:=hc
 exact mod_int' (by omega) (by rw [Int.fmod_eq_emod_of_nonneg i (by omega)];exact q)
theorem IZ:OpR X (binaryOp .Pow) (rI CPow λi j=>.int (i ^ j.toNat)):=opI λ_ _ _ _ _ _ _ hc q=>pow_int_small hc.1 hc.2.1 hc.2.2 q
theorem unI {f:Value->Sem Value}{g:Int->Int}
  (rule:∀ (i:Int) (t:Tok) (s:Shared) (Q:Value->Shared->Prop) (E:Value->Shared->Prop),Q (.int (g i) s.toks) { s with toks:=s.toks+1 }->wpAny (model X.prog X.w) X.A (f (.int i t)) Q E s) :
  UnR X f (rU λi=>.int (g i)):=by
 intro aa s U H x v Q I rx h
 obtain ⟨i,rfl,q⟩:=h
 obtain ⟨t,rfl⟩:=rx
 exact rule i t s _ _ ⟨.int (g i),H,I.tok _,⟨_,rfl⟩,q⟩
theorem Me:UnR X (unaryOp .USub) (rU λi=>.int (-i)):=unI λ_ _ _ _ _ q=>neg_int q
end
section
variable {X:Cx}{a b c:Expr}{ta tb tc:TE}{pos:Pos}
theorem DE {aa:List (Addr×Obj)}{U:St}{H:Hp}{s:Shared}{Q:VK}{k k':Bool} (I:Inv X aa U H s) (q:Q (.bl k) H) (e:k=k'):EP X aa U Q (.bool k') s:=by
 subst e
 exact ⟨.bl k,H,I,rfl,q⟩
theorem Bs:OpR X (compareOp .Lt) (rI0 λi j=>.bl (decide (i < j))):=opB0 λ_ _ _ _ _ _ _ q=>lt_int q
theorem zE:OpR X (compareOp .LtE) (rI0 λi j=>.bl (decide (i<=j))):=opB0 λ_ _ _ _ _ _ _ q=>le_int q
theorem Hw:OpR X (compareOp .Gt) (rI0 λi j=>.bl (decide (j < i))):=opB0 λ_ _ _ _ _ _ _ q=>gt_int q
theorem FA:OpR X (compareOp .GtE) (rI0 λi j=>.bl (decide (j<=i))):=opB0 λ_ _ _ _ _ _ _ q=>ge_int q
theorem CP:OpR X (compareOp .Is) (λx y H Q=>y=.non/\Q (.bl (decide (x=.non))) H):=by
 intro aa s U H x y v u Q I rx ry h
 obtain ⟨rfl,q⟩:=h
 cases ry
 refine is_none_gen (DE I q ?_)
 cases x<;>first
  | (cases rx;rfl)
  | (obtain ⟨t,rfl⟩:=rx;rfl)
theorem KB:OpR X (compareOp .IsNot) (λx y H Q=>y=.non/\Q (.bl (!decide (x=.non))) H):=by
 intro aa s U H x y v u Q I rx ry h
 obtain ⟨rfl,q⟩:=h
 cases ry
 refine isnot_none_gen (DE I q ?_)
 cases x<;>first
  | (cases rx;rfl)
  | (obtain ⟨t,rfl⟩:=rx;rfl)
theorem OpR.or {f:Value->Value->Sem Value}{r r':R2} (h:OpR X f r) (h':OpR X f r'):OpR X f (λx y H Q=>r x y H Q\/r' x y H Q):=by
 intro aa s U H x y v u Q I rx ry q
 rcases q with q | q
 ·exact h aa s U H x y v u Q I rx ry q
 ·exact h' aa s U H x y v u Q I rx ry q
theorem nomark (b:Expr){op:CmpOp} (h:op≠.In:=by decide) (h2:op≠.NotIn:=by decide):behindInMarks op b=false:=by
 have e1:(op == CmpOp.In)=false:=by cases op<;>first | rfl | exact absurd rfl h
 have e2:(op == CmpOp.NotIn)=false:=by cases op<;>first | rfl | exact absurd rfl h2
 cases b<;>simp [behindInMarks,e1,e2]
theorem Mo {op:CmpOp}{r:R2} (ho:OpR X (compareOp op) r) (ha:PE X a ta) (hb:PE X b tb) (hm:behindInMarks op b=false):PE X (.Compare a [op] [b] pos) (tOp r ta tb):=by
 intro aa s U H Q I h
 exact wpAny_Compare1 (binT ha hb I h λv u s2 x y H2 I2 rx ry q=>ho aa s2 U H2 x y v u Q I2 rx ry q) hm
noncomputable def tTest (t:TE):TT:=λU H Q=>t U H λx H'=>∃ k,x=.bl k/\Q k H'
theorem AQ {op:CmpOp}{r:R2} (ho:OpR X (compareOp op) r) (ha:PE X a ta) (hb:PE X b tb) (hm:behindInMarks op b=false):PT X (.Compare a [op] [b] pos) (tTest (tOp r ta tb)):=by
 intro aa s U H Q I h
 refine wpAny_isTrue_Compare1 (thn (ha aa s U H _ I h) λv s1 ⟨x,H1,I1,r1,q1⟩=>thn (hb aa s1 U H1 _ I1 q1) λu s2 ⟨y,H2,I2,r2,q2⟩ =>
  thn (ho aa s2 U H2 x y v u _ I2 r1 r2 q2) λc s3 ⟨z,H3,I3,r3,k,e,q3⟩=>?_) hm
 subst e
 cases r3
 exact wpAny_truthy_bool ⟨H3,I3,q3⟩
noncomputable def tChain (r r':R2) (ta tb tc:TE):TE:=λU H Q=>ta U H λx H1=>tb U H1 λy H2=>r x y H2 λz H3=>∃ k,z=.bl k ∧
 (if k=true then tc U H3 λw' H4=>r' y w' H4 Q else Q (.bl false) H3)
theorem IP {op eL:CmpOp}{r r':R2} (ho:OpR X (compareOp op) r) (cJ:OpR X (compareOp eL) r') (ha:PE X a ta) (hb:PE X b tb) (hc:PE X c tc)
  (hm:lastMarks [op,eL] [b,c]=false:=by with_unfolding_all rfl):PE X (.Compare a [op,eL] [b,c] pos) (tChain r r' ta tb tc):=by
 intro aa s U H Q I h
 refine Compare_chain (thn (ha aa s U H _ I h) λv s1 ⟨x,H1,I1,r1,q1⟩=>chain_link (thn (hb aa s1 U H1 _ I1 q1) λu s2 ⟨y,H2,I2,r2,q2⟩ =>
  thn (ho aa s2 U H2 x y v u _ I2 r1 r2 q2) λd s3 ⟨z,H3,I3,r3,k,e,q3⟩=>?_)) hm
 subst e
 cases r3
 refine wpAny_truthy_bool ?_
 cases k with
 | false=>exact ite_ff ⟨.bl false,H3,I3,rfl,q3⟩
 | true=>exact ite_tt (chain_last (thn (hc aa s3 U H3 _ I3 q3) λw' s4 ⟨z',H4,I4,r4,q4⟩=>cJ aa s4 U H4 y z' u w' Q I4 r2 r4 q4))
theorem line63:(sizeLine:Nat) < 2 ^ 63:=by rw [sizeLine_eq];decide
theorem Mc:OpR X (binaryOp .Add) (λx y H Q=>∃ i j,x=.str i/\y=.str j/\i.length+j.length<=sizeLine/\Q (.str (i++j)) H):=by
 intro aa s U H x y v u Q I rx ry h
 obtain ⟨i,j,rfl,rfl,hz,q⟩:=h
 obtain ⟨t,rfl⟩:=rx
 obtain ⟨t',rfl⟩:=ry
 exact add_str (λt' tk=>⟨.str (i++j),H,I.tok _,⟨_,rfl⟩,q⟩) hz
theorem vals1 {x:V}{us:List Value} (r:Vals [x] us):∃ u,us=[u]/\RelV x u:=by
 cases r with
 | cons r1 r2=>cases r2;exact ⟨_,rfl,r1⟩
theorem vals2 {x y:V}{us:List Value} (r:Vals [x,y] us):∃ u w',us=[u,w']/\RelV x u/\RelV y w':=by
 cases r with
 | cons r1 r2 =>
  cases r2 with
  | cons r3 r4=>cases r4;exact ⟨_,_,rfl,r1,r3⟩
theorem Fu (hc:X.calm=true):CallR X (.builtin "max") (λxs H Q=>∃ i j,xs=[.int i,.int j]/\Q (.int (if j > i then j else i)) H):=by
 intro aa s U H xs us Q I r h
 obtain ⟨i,j,rfl,q⟩:=h
 obtain ⟨u,w',rfl,⟨t,rfl⟩,⟨t',rfl⟩⟩:=vals2 r
 refine max_two_ints (I.ok.hd hc) λh' tk k=>⟨_,H,I.kept k,?_,q⟩
 by_cases hj:j > i
 ·rw [if_pos hj,if_pos hj];exact ⟨_,rfl⟩
 ·rw [if_neg hj,if_neg hj];exact ⟨_,rfl⟩
theorem JF (hc:X.calm=true):CallR X (.builtin "min") (λxs H Q=>∃ i j,xs=[.int i,.int j]/\Q (.int (if j < i then j else i)) H):=by
 intro aa s U H xs us Q I r h
 obtain ⟨i,j,rfl,q⟩:=h
 obtain ⟨u,w',rfl,⟨t,rfl⟩,⟨t',rfl⟩⟩:=vals2 r
 refine min_two_ints (I.ok.hd hc) λh' tk k=>⟨_,H,I.kept k,?_,q⟩
 by_cases hj:j < i
 ·rw [if_pos hj,if_pos hj];exact ⟨_,rfl⟩
 ·rw [if_neg hj,if_neg hj];exact ⟨_,rfl⟩
end
structure ObjM (h:Heap) (x dx C:Addr) (mA:Str->Option Value):Prop where
 obj:h.get? x=some (instObj C dx)
 ns:h.Ns1 dx mA
 ne:dx≠x
structure Cls (K:PySem.W.Frag) (C:Addr):Prop where
 pg:PySem.W.plainGet K C Str.empty=true
 hd:PySem.W.hasDictIn K C=true
 po:PySem.W.plainOver K C=true
 sa:findIn K (.ref C) "__setattr__"=some (some (.builtin "object.__setattr__"))
structure Con (K:PySem.W.Frag) (C:Addr) (f:Str) (v:V) (u:Value):Prop where
 at_:findIn K (.ref C) f=some (some u)
 rel:RelV v u
 get:specialIn K u "__get__"=some none
 cp:PySem.W.copiedNames.contains f=false
structure Meth (K:PySem.W.Frag) (C:Addr) (m:Str) (f:Addr):Prop where
 at_:findIn K (.ref C) m=some (some (.ref f))
 fn:isFn K (.ref f)=true
 kp:keepIn K (.ref f)=true
section
variable {X:Cx}{aa:List (Addr×Obj)}{U:St}{H:Hp}{s:Shared}{A:Around}{E:Value->Shared->Prop}{Q:Value->Shared->Prop}{c:Value}{b:Bool}
inductive TyOf (K:PySem.W.Frag) (H:Hp):V->Value->Prop where
 | non:TyOf K H .non (.type "NoneType")
 | bl (x:Bool):TyOf K H (.bl x) (.type "bool")
 | int (i:Int):TyOf K H (.int i) (.type "int")
 | str (x:Str):TyOf K H (.str x) (.type "str")
 | flt (x:UInt64):TyOf K H (.flt x) (.type "float")
 | lst {a:Addr}{xs:List V} (e:H a=some (.lst xs)):TyOf K H (.ref a) (.type "list")
 | frz {a:Addr}{o:Obj}{xs:List V} (e:H a=some (.frz o (.lst xs))):TyOf K H (.ref a) (.type "list")
 | tup {a:Addr}{xs:List V} (e:H a=some (.tup xs)):TyOf K H (.ref a) (.type "tuple")
 | dK {a:Addr}{aO:List (Key×V)} (e:H a=some (.dK aO)):TyOf K H (.ref a) (.type "dict")
 | dT {a:Addr}{aO:List (List Key×V)} (e:H a=some (.dT aO)):TyOf K H (.ref a) (.type "dict")
 | ins {a C dx:Addr}{fs:List (Str×V)} (e:H a=some (.ins C dx fs)) (cl:Cls K C) (ha:findIn K (.ref C) "__class__"=some (some (.builtin "object.__class__")))
   (hn:specialIn K (.builtin "object.__class__") "__get__"=some (some (.builtin "getset_descriptor.__get__"))) (eM:PySem.W.takesIn K (.builtin "object.__class__")=some true)
   (hm:PySem.W.mroIn K C (.type "object")=some true):TyOf K H (.ref a) (.ref C)
end
structure Room (k:Nat) (A:Around):Prop where
 hd:A.handled=none
 dp:A.depth+3*k+5 < recursionLimit
 un:A.units+16*k+200 < cLine
 gd:A.guards=some []
theorem Room.mono {j k:Nat}{A:Around} (r:Room k A) (h:j<=k):Room j A:=⟨r.hd,by have:=r.dp;omega,by have:=r.un;omega,r.gd⟩
theorem Room.deeper {k:Nat}{A:Around} (r:Room (k+1) A) (env:Env):Room k (A.deeper env) :=
 ⟨r.hd,by have:=r.dp;show A.depth+1+3*k+5 < _;omega,by have:=r.un;show A.units+3+16*k+200 < _;omega,r.gd⟩
theorem Room.in1 {k:Nat}{A:Around} (r:Room (k+1) A):Room k A.in1 :=
 ⟨r.hd,by have:=r.dp;show A.depth+3*k+5 < _;omega,by have:=r.un;show A.units+1+16*k+200 < _;omega,r.gd⟩
theorem Room.depth {k:Nat}{A:Around} (r:Room k A):A.depth < recursionLimit:=by have:=r.dp;omega
def tNil:TA:=λ_ H Q=>Q [] H
noncomputable def tCons (ta:TE) (tr:TA):TA:=λU H Q=>ta U H λx H1=>tr U H1 λxs H2=>Q (x::xs) H2
section
variable {X:Cx}{e:Expr}{es:List Expr}{te:TE}{t:TA}{pos:Pos}
theorem xW:PA X [] tNil:=λ_ _ _ _ H Q I h=>Calls.spliced_nil ⟨[],H,I,.nil,h⟩
theorem wy (ha:PE X e te) (hr:PA X es t) (hs:starEach (e::es) X.env=(false,eval e X.env)::starEach es X.env:=by rfl):PA X (e::es) (tCons te t):=by
 intro pos aa s U H Q I h
 rw [hs]
 show wpAny _ _ (spliced ((false,eval e X.env)::backTo pos (starEach es X.env))) _ _ s
 refine Calls.spliced_cons (thn (ha aa s U H _ I h) λu s1 ⟨x,H1,I1,r1,q1⟩=>?_)
 exact thn (hr pos aa s1 U H1 _ I1 q1) λus s2 ⟨xs,H2,I2,r2,q2⟩=>⟨x::xs,H2,I2,.cons r1 r2,q2⟩
noncomputable def tTup (t:TA):TE:=λU H Q=>t U H λxs H1=>xs.length<=sizeLine/\∀ p,H1 p=none->Q (.ref p) (upd H1 p (.tup xs))
noncomputable def tLst (t:TA):TE:=λU H Q=>t U H λxs H1=>xs.length<=sizeLine/\∀ p,H1 p=none->Q (.ref p) (upd H1 p (.lst xs))
theorem Ff {x1} (h:PA X es t):PE X (.Tuple es x1 pos) (tTup t):=by
 intro aa s U H Q I hq
 refine wpAny_Tuple_spliced (thn (h pos aa s U H _ I hq) λus s1 ⟨xs,H1,I1,r,z,q⟩=>⟨by rw [← r.length];exact z,?_⟩)
 have hf:H1 s1.heap.objs.size=none:=I1.hok.fresh (le_refl _)
 refine ⟨.ref s1.heap.objs.size,upd H1 s1.heap.objs.size (.tup xs),I1.laid (t':=s1.toks) (λb u e=>get?_push_of_some _ e) (le_refl _) ?_,rfl,q _ hf⟩
 exact ⟨z,us,r,⟨_,get?_push_size _ rfl,rfl,_,rfl⟩⟩
theorem Fd (h:PA X es t):PE X (.List es pos) (tLst t):=by
 intro aa s U H Q I hq
 refine wpAny_List_spliced (thn (h pos aa s U H _ I hq) λus s1 ⟨xs,H1,I1,r,z,q⟩=>⟨by rw [← r.length];exact z,?_⟩)
 have hf:H1 s1.heap.objs.size=none:=I1.hok.fresh (le_refl _)
 refine ⟨.ref s1.heap.objs.size,upd H1 s1.heap.objs.size (.lst xs),I1.laid (t':=s1.toks) (λb u e=>get?_push_of_some _ e) (le_refl _) ?_,rfl,q _ hf⟩
 exact ⟨z,us,0,r,get?_push_size _ rfl⟩
end
abbrev Sp:=List V->Hp->VK->XK->Prop
abbrev CXT:=List Env->Hp->Shared->XK->Value->Shared->Prop
structure Env0 (P:Program) (w:World) (K:PySem.W.Frag) (mg:Str->Option Value) (base:Heap) (A:Around) (outer:List Env) (s:Shared) (H:Hp):Prop where
 frames:A.frames=some outer
 mod:Mod K mg base
 bs:∀ b o,base.get? b=some o->s.heap.get? b=some o/\H b=none
 bsz:base.objs.size<=s.heap.objs.size
 funs:s.heap.FunFrames base outer
 frf:∀ b∈frs outer,H b=none
 hok:HOk P w H s.heap
 bare:AllBare s.gens
 tb:TabsOk K H
def CE (outer:List Env) (P:Program) (w:World) (H:Hp) (s:Shared) (Q:VK) (u:Value) (s':Shared):Prop :=
 ∃ v H',s'.os=s.os/\AllBare s'.gens/\Un (frs outer) [] H H' s.heap s'.heap/\HOk P w H' s'.heap/\RelV v u/\Q v H'
def CR (CX:CXT) (outer:List Env) (P:Program) (w:World) (H:Hp) (s:Shared) (Q:VK) (E:XK) (r:Result) (s':Shared):Prop :=
 match r with
 | .ok (.ret u)=>CE outer P w H s Q u s'
 | .ok _=>False
 | .error e=>CX outer H s E e s'
structure FnOk (P:Program) (w:World) (K:PySem.W.Frag) (mg:Str->Option Value) (base:Heap) (CX:CXT) (k:Nat) (f:Addr) (fd:FuncData) (ps:List Str) (sp:Sp):Prop where
 len:∀ vs H Q E,sp vs H Q E->vs.length=ps.length
 run:∀ (A:Around) (outer:List Env) (s:Shared) (H:Hp) (args:Args) (us:List Value) (vs:List V) (Q:VK) (E:XK),Room k A->Env0 P w K mg base A outer s H->BindsTo s fd args (ps.zip us)->Vals vs us->sp vs H Q E →
  codeAny (model P w) A (.call (.ref f) args) (CR CX outer P w H s Q E) s
theorem Env0.in1 {P:Program}{w:World}{K:PySem.W.Frag}{mg:Str->Option Value}{base:Heap}{A:Around}{outer:List Env}{s:Shared}{H:Hp} (e:Env0 P w K mg base A outer s H) :
  Env0 P w K mg base A.in1 outer s H:=⟨e.frames,e.mod,e.bs,e.bsz,e.funs,e.frf,e.hok,e.bare,e.tb⟩
section
variable {X:Cx}{aa:List (Addr×Obj)}{U:St}{H:Hp}{s s':Shared}
theorem Inv.env0 (I:Inv X aa U H s):Env0 X.prog X.w X.K X.mg X.base X.A X.stack s H :=
 ⟨I.ok.frames,I.ok.mod,I.bs,le_trans I.ok.bsz I.sz,I.stack,I.stkFree,I.hok,I.bare,λc P h=>I.base.tbls P _ (I.ok.tb c P h)⟩
theorem Inv.after {Q:VK}{u:Value} (I:Inv X aa U H s) (h:CE X.stack X.prog X.w H s Q u s'):EP X aa U Q u s':=by
 obtain ⟨v,H',os,bare,un,hok,r,q⟩:=h
 obtain ⟨hh,g,d,t,fW⟩:=s'
 obtain rfl:fW=s.os:=os
 exact ⟨v,H',I.call (h':=hh) (g':=g) (d':=d) (t':=t) (ch:=[]) un hok bare (λb z=>absurd z (by simp)),r,q⟩
end
noncomputable def tCall (sp:Sp) (dS:List V) (E:XK) (t:TA):TE:=λU H Q=>t U H λvs H1=>sp (vs++dS) H1 Q E
def Binds (K:PySem.W.Frag) (fd:FuncData) (ps:List Str) (ds:List Value):Prop :=
 ∀ (s:Shared) (us:List Value),K.In s.heap->(us++ds).length=ps.length->BindsTo s fd ⟨us,[]⟩ (ps.zip (us++ds))
theorem Binds.all {K:PySem.W.Frag}{fd:FuncData}{ps:List Str} (h:∀ us:List Value,us.length=ps.length->bindArgs fd ⟨us,[]⟩=pure (ps.zip us)):Binds K fd ps []:=λs us _ hl=>by
 rw [append_nil] at hl ⊢
 exact .of_eq (h us hl)
def Passes (CX:CXT) (X:Cx) (E:XK):Prop:=∀ (aa:List (Addr×Obj)) (U:St) (H:Hp) (s:Shared) (e:Value) (s':Shared),Inv X aa U H s->CX X.stack H s E e s'->X.xe e s'
section
variable {X:Cx}{CX:CXT}{k:Nat}{f C:Addr}{fd:FuncData}{ps:List Str}{sp:Sp}{dS:List V}{ds:List Value}{E:XK}{x m:Str}{p pos bc:Pos}{e o:Expr}{es:List Expr}{ta:TE}{t:TA}
theorem LK {aa:List (Addr×Obj)}{U:St}{H:Hp}{s:Shared}{Q:VK}{us:List Value}{vs:List V} (F:FnOk X.prog X.w X.K X.mg X.base CX k f fd ps sp) (hr:Room k X.A) (hb:Binds X.K fd ps ds) (hd:Vals dS ds) (hx:Passes CX X E)
  (I:Inv X aa U H s) (r:Vals vs us) (h:sp (vs++dS) H Q E):wpAny (model X.prog X.w) X.A (call (.ref f) us) (EP X aa U Q) X.xe s:=by
 have r2:Vals (vs++dS) (us++ds):=r.append hd
 have hl:(us++ds).length=ps.length:=by rw [← r2.length];exact F.len _ _ _ _ h
 refine wpAny_call (codeAny_mono (F.run X.A X.stack s H ⟨us,[]⟩ (us++ds) (vs++dS) Q E hr I.env0 (hb s us I.kIn hl) r2 h) λr s' hq=>?_)
 cases r with
 | error e=>exact hx aa U H s e s' I hq
 | ok fl =>
  cases fl with
  | ret u=>exact I.after hq
  | next=>exact elim hq
  | brk=>exact elim hq
  | cont=>exact elim hq
theorem AI (F:FnOk X.prog X.w X.K X.mg X.base CX k f fd ps sp) (hr:Room k X.A) (hg:Gl X x) (hm:X.mg x=some (.ref f)) (hk:keepIn X.K (.ref f)=true) (hb:Binds X.K fd ps ds) (hd:Vals dS ds) (hx:Passes CX X E)
  (ha:PA X (e::es) t) (bi:(x == ("__debug__":Str))=false:=by decide) (he:starEach (e::es) X.env=(false,eval e X.env)::starEach es X.env:=by rfl) (az:(backTo pos (starEach es X.env)).any (·.1)=false:=by rfl) :
  PE X (.Call (.Name x p) (e::es) [] pos) (tCall sp dS E t):=by
 intro aa s U H Q I h
 refine wpAny_Call_Name_kw (Gq I hg hm ?_ bi)
 refine PySem.W.callWith_K (h₀:=X.base) I.ok.mod.kin hk (thn (ha pos aa s U H _ I h) λus s1 ⟨vs,H1,I1,r,q⟩=>⟨I1.kIn,?_⟩) he az
 exact LK F hr hb hd hx I1 r q
structure Mk (K:PySem.W.Frag) (C f:Addr):Prop where
 makes:PySem.W.makesIn K C=true
 init:findIn K (.ref C) "__init__"=some (some (.ref f))
 fn:isFn K (.ref f)=true
 kp:keepIn K (.ref C)=true
end
section
variable {X:Cx}{CX:CXT}{k:Nat}{f C:Addr}{fd:FuncData}{ps ks:List Str}{sp:Sp}{E:XK}{x m:Str}{p pos bc rj:Pos}{e o:Expr}{es:List Expr}{rG:List Keyword}{te ta:TE}{t tk:TA}{nm:Option Str}
structure KBinds (K:PySem.W.Frag) (fd:FuncData) (ps ks:List Str) (g:List Value->List Value->List Value) (gV:List V->List V->List V):Prop where
 to:∀ (s:Shared) (us ws:List Value),K.In s.heap->(g us ws).length=ps.length->BindsTo s fd ⟨us,ks.zip ws⟩ (ps.zip (g us ws))
 rel:∀ {vs:List V}{us:List Value}{zs:List V}{ws:List Value},Vals vs us->Vals zs ws->Vals (gV vs zs) (g us ws)
variable {g:List Value->List Value->List Value}{gV:List V->List V->List V}
end
structure FnScope (N P:List Str) (sc:Scope):Prop where
 kind:sc.kind=.function
 co:sc.isCoroutine=false
 gen:sc.isGenerator=false
 nd:N.Nodup
 pre:N.take P.length=P
 par:∀ x∈P,sc.names.lookup x=some .local\/sc.names.lookup x=some .cell
 nofree:∀ y∈sc.names,y.2≠.free
theorem DP {kindOf:Str->Option NameKind}{x:Str}:∀ {binds:List (Str×Value)}{m:Str->Option Value},(∀ v,(x,v)∉binds)->bindL kindOf binds m x=m x
 | [],_,_=>rfl
 | (n,v)::r,m,h=>by
  unfold bindL
  rw [DP λw hw=>h w (mem_cons_of_mem _ hw)]
  split
  ·have:x≠n:=by rintro rfl;exact h v mem_cons_self
   simp [this]
  ·rfl
theorem Bv {kindOf:Str->Option NameKind}{x:Str}:∀ {binds:List (Str×Value)}{m:Str->Option Value},(∀ v,(x,v)∉binds)->bindC kindOf binds m x=m x
 | [],_,_=>rfl
 | (n,v)::r,m,h=>by
  unfold bindC
  rw [Bv λw hw=>h w (mem_cons_of_mem _ hw)]
  split
  ·rfl
  ·have:x≠n:=by rintro rfl;exact h v mem_cons_self
   simp [this]
theorem Du {kindOf:Str->Option NameKind}{x:Str}{v:Value}:∀ {P:List Str}{vs:List Value}{i:Nat}{m:Str->Option Value},P.Nodup->P[i]?=some x->vs[i]?=some v->kindOf x=some .local →
  bindL kindOf (P.zip vs) m x=some v
 | [],_,_,_,_,h,_,_=>by simp at h
 | _::_,[],_,_,_,_,h,_=>by simp at h
 | p::P,w::vs,0,m,nd,h1,h2,hk=>by
  simp at h1 h2;subst h1;subst h2
  show bindL kindOf ((p,w)::P.zip vs) m p=_
  unfold bindL
  rw [DP λv hv=>(nodup_cons.mp nd).1 (of_mem_zip hv).1,if_pos hk]
  simp
 | p::P,w::vs,i+1,m,nd,h1,h2,hk=>by
  show bindL kindOf ((p,w)::P.zip vs) m x=_
  unfold bindL
  exact Du (i:=i) (nodup_cons.mp nd).2 (by simpa using h1) (by simpa using h2) hk
theorem Ez {kindOf:Str->Option NameKind}{x:Str}{v:Value}:∀ {P:List Str}{vs:List Value}{i:Nat}{m:Str->Option Value},P.Nodup->P[i]?=some x->vs[i]?=some v->kindOf x≠some .local →
  bindC kindOf (P.zip vs) m x=some v
 | [],_,_,_,_,h,_,_=>by simp at h
 | _::_,[],_,_,_,_,h,_=>by simp at h
 | p::P,w::vs,0,m,nd,h1,h2,hk=>by
  simp at h1 h2;subst h1;subst h2
  show bindC kindOf ((p,w)::P.zip vs) m p=_
  unfold bindC
  rw [Bv λv hv=>(nodup_cons.mp nd).1 (of_mem_zip hv).1,if_neg hk]
  simp
 | p::P,w::vs,i+1,m,nd,h1,h2,hk=>by
  show bindC kindOf ((p,w)::P.zip vs) m x=_
  unfold bindC
  exact Ez (i:=i) (nodup_cons.mp nd).2 (by simpa using h1) (by simpa using h2) hk
noncomputable def start (N:List Str) (vs:List V):St:=vs.map some++replicate (N.length - vs.length) none
noncomputable def cxOf (CX:CXT) (P:Program) (w:World) (K:PySem.W.Frag) (mg:Str->Option Value) (base:Heap) (N:List Str) (qual:Str) (scope:Scope) (f:Addr) (cd:Value) (A:Around) (outer:List Env) (s:Shared) (H:Hp) (E:XK):Cx where
 prog:=P
 w:=w
 K:=K
 mg:=mg
 base:=base
 A:=A.deeper (envOfC qual scope s.heap.objs.size f cd)
 N:=N
 s₀:=s
 H₀:=H
 env:=envOfC qual scope s.heap.objs.size f cd
 outer:=outer
 stack:=envOfC qual scope s.heap.objs.size f cd::outer
 ex:=[]
 calm:=true
 fn:=λ_=>true
 pn:=[]
 xe:=λe s'=>wpAny (model P w) (A.deeper (envOfC qual scope s.heap.objs.size f cd)) (leaving (envOfC qual scope s.heap.objs.size f cd) e) (λ_ fJ=>CX outer H s E e fJ) (λe' fJ=>CX outer H s E e' fJ) s'
theorem Ee {sc:Scope}{n:Nat}{x:Str} (h:sc.names.lookup x=some .cell):∃ c,(cellsFrom n sc.names []).lookup x=some c:=by
 have q:=PySem.W.cellsFrom_some sc.names n [] (.inl h)
 exact Option.isSome_iff_exists.mp q
theorem He {CX:CXT}{P:Program}{w:World}{K:PySem.W.Frag}{mg:Str->Option Value}{base:Heap}{N ps:List Str}{qual:Str}{scope:Scope}{f:Addr}{cd:Value}{A:Around}{outer:List Env}{s s1:Shared}{H:Hp}{E:XK}{us:List Value}{vs:List V}
  (S:FnScope N ps scope) (hd:A.handled=none) (e0:Env0 P w K mg base A outer s H) (hl:vs.length=ps.length) (r:Vals vs us)
  (x:InCallC s s.heap.objs.size (bindL (envOfC qual scope s.heap.objs.size f cd).kindOf (ps.zip us) λ_=>none) (cellsFrom (s.heap.objs.size+1) scope.names []) (bindC (envOfC qual scope s.heap.objs.size f cd).kindOf (ps.zip us) λ_=>none) s1) :
  Inv (cxOf CX P w K mg base N qual scope f cd A outer s H E) [] (start N vs) H s1:=by
 have az:ps.length<=N.length:=by have:=congrArg List.length S.pre;rw [length_take] at this;omega
 obtain ⟨h1,tk,rfl,hk⟩:=x.done
 have jR:∀ b:Addr,b∉(cxOf CX P w K mg base N qual scope f cd A outer s H E).ex:=λb z=>absurd (show b∈([]:List Addr) from z) (by simp)
 refine ⟨⟨e0.mod,S.kind,rfl,rfl,le_refl _,λy z c h1 h2=>?_,λy hy=>?_,λy c _ h=>?_,λ_=>hd,Around.frames_deeper e0.frames,.inr ⟨rfl,rfl⟩,λb z=>absurd z (jR b),e0.bs,e0.bsz,λb _ _=>jR b,λb z=>absurd z (jR b),e0.funs,e0.frf,e0.tb⟩,
  rfl,e0.bare,Un.kept hk,⟨_,x.toInCall.ns,λi y v h1 h2 h3=>?_⟩,λy c h=>⟨_,x.cell y c h⟩,e0.hok.fresh (le_refl _),λy c h=>?_,λp hp=>absurd (show p∈([]:List (Addr×Obj)) from hp) (by simp),e0.hok.kept hk,?_⟩
 ·exact name_of_addr x.apart (PySem.mem_of_lookup h1) (PySem.mem_of_lookup h2)
 ·have hy:scope.names.lookup y=some .cell\/scope.names.lookup y=some .free:=hy
  rcases hy with hy | hy
  ·exact Ee hy
  ·exact absurd rfl (S.nofree _ (PySem.mem_of_lookup hy))
 ·exact le_of_lt (x.above y c (PySem.mem_of_lookup h))
 ·have hi:i < vs.length:=by
   unfold start at h2
   by_cases hi:i < vs.length
   ·exact hi
   ·rw [getElem?_append_right (by simpa using hi)] at h2
    rw [List.getElem?_replicate] at h2
    split at h2<;>cases h2
  have ha:vs[i]?=some v:=by
   unfold start at h2
   rw [getElem?_append_left (by simpa using hi),getElem?_map] at h2
   cases e:vs[i]? with
   | none=>rw [e] at h2;cases h2
   | some a=>rw [e] at h2;cases h2;rfl
  obtain ⟨u,hu,rv⟩:=r.get ha
  have hp:ps[i]?=some y:=by
   rw [← S.pre,List.getElem?_take_of_lt (by omega)];exact h1
  have lL:ps.Nodup:=by rw [← S.pre];exact S.nd.sublist (List.take_sublist _ _)
  refine ⟨u,rv,?_⟩
  rcases S.par y (mem_of_getElem? hp) with k | k
  ·exact .inl ⟨k,Du lL hp hu k⟩
  ·obtain ⟨c,e⟩:=Ee (n:=s.heap.objs.size+1) k
   refine .inr ⟨.inl k,c,e,?_⟩
   have q:=x.cell y c e
   rw [Ez lL hp hu (by show scope.names.lookup y≠_;rw [k];decide)] at q
   exact q
 ·exact e0.hok.fresh (le_of_lt (x.above y c (PySem.mem_of_lookup h)))
 ·unfold start
  show _=N.length
  rw [length_append,length_map,length_replicate]
  omega
theorem CJ {CX:CXT}{P:Program}{w:World}{K:PySem.W.Frag}{mg:Str->Option Value}{base:Heap}{k:Nat}{f:Addr}{name qual:Str}{params:Arguments}{body:List Stmt}{scope:Scope}{dV kV bM pm au ct oc:Value}{an od:Option Addr}
  {cR:Array (Option Value)}{N ps:List Str}{sp:Sp} (lk:K.lookup f=some ⟨oc,od,.func (fnOf name qual params body scope dV kV bM pm an au ct),cR⟩) (aX:codeIn K au qual=true) (S:FnScope N ps scope)
  (len:∀ vs H Q E,sp vs H Q E->vs.length=ps.length)
  (cS:∀ (A:Around) (outer:List Env) (s:Shared) (H:Hp) (vs:List V) (Q:VK) (E:XK),Room k (A.deeper (envOfC qual scope s.heap.objs.size f au))->sp vs H Q E →
   ∃ t,PSs (cxOf CX P w K mg base N qual scope f au A outer s H E) body t/\t { nx:=λ_ H'=>Q .non H',rt:=Q } (start N vs) H) :
  FnOk P w K mg base CX (k+1) f (fnOf name qual params body scope dV kV bM pm an au ct) ps sp:=by
 refine ⟨len,λA outer s H args us vs Q E hr e0 hb r db=>?_⟩
 have hl:=len _ _ _ _ db
 have KX:K.In s.heap:=e0.mod.kin.keeps λb o e=>(e0.bs b o e).1
 have lim:s.heap.NoLimit:=e0.mod.nolimit.keeps λb o e=>(e0.bs b o e).1
 have fX:∀ y∈ps.zip us,scope.names.lookup y.1=some .local\/(scope.names.lookup y.1=some .cell/\((cellsFrom (s.heap.objs.size+1) scope.names []).lookup y.1).isSome=true):=λ⟨n,v⟩ hy=>by
  rcases S.par n (of_mem_zip hy).1 with q | q
  ·exact .inl q
  ·exact .inr ⟨q,PySem.W.cellsFrom_some _ _ _ (.inl q)⟩
 refine codeAny_call_function hr.depth (KX _ _ lk) rfl S.co S.gen rfl (PySem.W.codeRec_of KX aX) (hb _ _ _ _ ?_)
 refine wpAny_newFunctionEnv_cells S.kind fX λenv he s1 x=>?_
 subst he
 refine ⟨lim.keeps x.toInCall.keep,codeAny_func ?_⟩
 obtain ⟨t,ht,hq⟩:=cS A outer s H vs Q E (hr.deeper _) db
 have I:Inv (cxOf CX P w K mg base N qual scope f au A outer s H E) [] (start N vs) H s1:=He S hr.hd e0 hl r x
 refine wpAny_mono (ht [] s1 (start N vs) H _ I hq) (λfl s' hs=>?_) λe s' hs=>hs
 have fin:∀ {aj:St}{H':Hp}{v:V}{u:Value},Inv (cxOf CX P w K mg base N qual scope f au A outer s H E) [] aj H' s'->RelV v u->Q v H'->CE outer P w H s Q u s' :=
  λ{aj H' v u} J rv q=>⟨v,H',J.os,J.bare,J.base,J.hok,rv,q⟩
 cases fl with
 | ret u =>
  obtain ⟨v,aj,H',J,rv,q⟩:=hs
  exact fin J rv q
 | next =>
  obtain ⟨aj,H',J,q⟩:=hs
  exact fin (v:=V.non) (u:=Value.none) J rfl q
 | brk =>
  obtain ⟨_,_,_,q⟩:=hs
  exact elim q
 | cont =>
  obtain ⟨_,_,_,q⟩:=hs
  exact elim q
section
variable {X:Cx}{x:Str}{p pos:Pos}{e:Expr}{es:List Expr}{t:TA}{id T:String}{r:List V->Hp->VK->Prop}
noncomputable def tCB (r:List V->Hp->VK->Prop) (t:TA):TE:=λU H Q=>t U H λvs H1=>r vs H1 Q
theorem yT (hc:CallR X (.builtin id) r) (hg:Gl X x) (hm:X.mg x=none) (hv:bootBuiltins x=some (.builtin id)) (ha:PA X (e::es) t) (hn:x ≠ "__name__":=by decide) (bi:(x == ("__debug__":Str))=false:=by decide)
  (he:starEach (e::es) X.env=(false,eval e X.env)::starEach es X.env:=by rfl) (az:(backTo pos (starEach es X.env)).any (·.1)=false:=by rfl):PE X (.Call (.Name x p) (e::es) [] pos) (tCB r t):=by
 intro aa s U H Q I h
 refine wpAny_Call_Name_kw (uy I hg hm hv ?_ hn bi)
 exact PyProof.Rows.callWith_builtin1 (thn (ha pos aa s U H _ I h) λus s1 ⟨vs,H1,I1,r1,q1⟩=>hc aa s1 U H1 vs us Q I1 r1 q1) he az
theorem DT (hc:CallR X (.type T) r) (hg:Gl X x) (hm:X.mg x=none) (hv:bootBuiltins x=some (.type T)) (ha:PA X (e::es) t) (hn:x ≠ "__name__":=by decide) (bi:(x == ("__debug__":Str))=false:=by decide)
  (he:starEach (e::es) X.env=(false,eval e X.env)::starEach es X.env:=by rfl) (az:(backTo pos (starEach es X.env)).any (·.1)=false:=by rfl):PE X (.Call (.Name x p) (e::es) [] pos) (tCB r t):=by
 intro aa s U H Q I h
 refine wpAny_Call_Name_kw (uy I hg hm hv ?_ hn bi)
 exact PyProof.Rows.callWith_type1 (thn (ha pos aa s U H _ I h) λus s1 ⟨vs,H1,I1,r1,q1⟩=>hc aa s1 U H1 vs us Q I1 r1 q1) he az
end
end L2
namespace HT
open PySem PyProof.Rows
section
variable {prog:Program}{w:World}{A:Around}{E:Value->Shared->Prop}{s:Shared}
theorem Km {t b:Addr}{vs ws:List Value}{Q:Value->Shared->Prop} (ht:IsTup s.heap t vs.toArray) (hb:IsTup s.heap b ws.toArray) (hv:vs≠[])
  (h1:ws=[]->Q (.ref t) s) (h2:ws≠[]->Q (.ref s.heap.objs.size) { s with heap:=s.heap.push { cls:=.type "tuple", data:=.seq (vs++ws).toArray } })
  (iz:vs.length+ws.length<=sizeLine):wpAny (model prog w) A (binaryOp .Add (.ref t) (.ref b)) Q E s:=by
 obtain ⟨⟨cls,dd,data,sl⟩,ho,hc,n,hd⟩:=id ht
 obtain ⟨⟨lM,iA,data2,iB⟩,eN,cU,n2,dz⟩:=id hb
 simp only at hc hd cU dz
 subst hc hd cU dz
 have e:vs.toArray++ws.toArray=(vs++ws).toArray:=by simp
 by_cases hw:ws=[]
 ·exact concat_meets ⟨_,ho,rfl⟩ ⟨_,eN,rfl⟩ noFill_tuple_add seq_tuple_add slot_tuple_add entry_tuple_add (args_tuple_add_2 _ _)
   (tuple_addW1 t b vs.toArray ws.toArray n n2 dd iA sl iB (by simpa using hv) (by simp [hw])) ⟨ho,eN,h1 hw⟩
 ·refine concat_meets ⟨_,ho,rfl⟩ ⟨_,eN,rfl⟩ noFill_tuple_add seq_tuple_add slot_tuple_add entry_tuple_add (args_tuple_add_2 _ _)
   (tuple_addW2 t b vs.toArray ws.toArray n n2 dd iA sl iB (by simpa using hv) (by simpa using hw) (by rw [size_toArray,size_toArray];exact iz)) ⟨ho,eN,?_⟩
  rw [e]
  exact h2 hw
noncomputable def sIx (n d:Nat):Option Int->Nat
 | none=>d
 | some v=>if v < 0 then (v+(n:Int)).toNat else min v.toNat n
theorem xG (n d:Nat):sIx n d none=d:=rfl
theorem LJ (n d:Nat) (hd:d<=n) (o:Option Int):sIx n d o<=n:=by
 cases o with
 | none=>exact hd
 | some v =>
  show (if v < 0 then (v+(n:Int)).toNat else min v.toNat n)<=n
  by_cases hv:v < 0
  ·rw [if_pos hv];omega
  ·rw [if_neg hv];exact Nat.min_le_right _ _
theorem Cq (v:Int) (n d:Nat):(if v < 0 then max (v+(n:Int)) 0 else min v (n:Int))=((sIx n d (some v):Nat):Int):=by
 show (if v < 0 then max (v+(n:Int)) 0 else min v (n:Int))=(((if v < 0 then (v+(n:Int)).toNat else min v.toNat n):Nat):Int)
 by_cases hv:v < 0
 ·simp only [if_pos hv];omega
 ·simp only [if_neg hv];omega
theorem FW (lo hi:Option Int) (n:Nat):sliceAdjust lo hi 1 (n:Int)=(((sIx n 0 lo:Nat):Int),((sIx n n hi:Nat):Int)):=by
 have h1:¬ ((1:Int) < 0):=by omega
 unfold sliceAdjust
 simp only [h1,if_false]
 refine Prod.ext ?_ ?_
 ·cases lo with
  | none=>rfl
  | some v=>exact Cq v n 0
 ·cases hi with
  | none=>rfl
  | some v=>exact Cq v n n
theorem HY (i j:Nat):slicePlaces (i:Int) (j:Int) 1=j - i:=by
 unfold slicePlaces
 have h1:(1:Int) > 0:=by omega
 simp only [h1,if_true,Int.ediv_one]
 split<;>omega
theorem Cf {v:Value}{o:Option Int}{Q:Option Int->Shared->Prop} (p:IsPart v o) (h:Q o s):wpAny (model prog w) A (Builtin.Slice.slicePartIndex v) Q E s:=by
 cases p with
 | none=>exact slicePart_none h
 | int i t=>exact slicePart_int h
theorem Fz {sl:Addr}{vl vu:Value}{lo hi:Option Int}{n:Nat}{Q:Int×Int×Nat->Shared->Prop} (hs:s.heap.IsSliceOf sl vl vu .none) (pl:IsPart vl lo) (pu:IsPart vu hi)
  (h:Q (((sIx n 0 lo:Nat):Int),1,sIx n n hi - sIx n 0 lo) s):wpAny (model prog w) A (sliceApplied (.ref sl) (pure (n:Int))) Q E s:=by
 obtain ⟨os,fY,lN,fK⟩:=id hs
 unfold sliceApplied Builtin.Slice.sliceFields
 refine wpAny_bind (wpAny_bind (wpAny_field fY fK (x:=vl) rfl (wpAny_bind (wpAny_field fY fK (x:=vu) rfl (wpAny_bind (wpAny_field fY fK (x:=.none) rfl (wpAny_pure ?_)))))))
 refine wpAny_bind (slicePart_none ?_)
 show wpAny _ _ (if ((1:Int) == 0)=true then _ else _) _ _ s
 rw [if_neg (by decide)]
 refine wpAny_bind (Cf pl (wpAny_bind (Cf pu (wpAny_bind (wpAny_pure ?_)))))
 show wpAny _ _ (match sliceAdjust lo hi 1 (n:Int) with | (lo,hi)=>pure (lo,(1:Int),slicePlaces lo hi 1)) _ _ s
 rw [FW lo hi n]
 show wpAny _ _ (pure (((sIx n 0 lo:Nat):Int),(1:Int),slicePlaces ((sIx n 0 lo:Nat):Int) ((sIx n n hi:Nat):Int) 1)) _ _ s
 rw [HY]
 exact wpAny_pure h
theorem Lm (xs:Array Value) (i k:Nat):((range k).filterMap λ(m:Nat)=>xs[((i:Int)+(m:Int)*1).toNat]?).toArray=((xs.toList.drop i).take k).toArray:=by
 have e:(λ(m:Nat)=>xs[((i:Int)+(m:Int)*1).toNat]?)=λm=>xs[i+m]?:=by
  funext m
  have:((i:Int)+(m:Int)*1).toNat=i+m:=by omega
  rw [this]
 rw [e]
 have:=pick_run xs i k
 rw [List.filterMap_map] at this
 have e2:((λx=>xs[x]?)∘λx=>i+x)=λm=>xs[i+m]?:=rfl
 rw [e2] at this
 rw [this]
theorem Fg {t sl:Addr}{ag:Array Value}{vl vu:Value}{lo hi:Option Int}{Q:Value->Shared->Prop} (ht:IsTup s.heap t ag) (hs:s.heap.IsSliceOf sl vl vu .none) (pl:IsPart vl lo) (pu:IsPart vu hi)
  (hw:¬ (sIx ag.size 0 lo=0/\sIx ag.size ag.size hi=ag.size))
  (h:Q (.ref s.heap.objs.size) { s with heap:=s.heap.push { cls:=.type "tuple", data:=.seq ((ag.toList.drop (sIx ag.size 0 lo)).take (sIx ag.size ag.size hi - sIx ag.size 0 lo)).toArray } })
  (iz:ag.size<=sizeLine):wpAny (model prog w) A (getItem (.ref t) (.ref sl)) Q E s:=by
 have dA:sizeOk (.seq ((ag.toList.drop (sIx ag.size 0 lo)).take (sIx ag.size ag.size hi - sIx ag.size 0 lo)).toArray):=by
  show ((ag.toList.drop (sIx ag.size 0 lo)).take (sIx ag.size ag.size hi - sIx ag.size 0 lo)).toArray.size<=sizeLine
  rw [size_toArray,length_take,length_drop,length_toList]
  omega
 have hj:sIx ag.size ag.size hi<=ag.size:=LJ _ _ (le_refl _) hi
 obtain ⟨os,fY,lN,fK⟩:=id hs
 have oE:s.TypeIs (.ref sl) "slice":=⟨os,fY,lN⟩
 unfold getItem
 try with_reducible refine wpAny_holding ?_
 first | refine wpAny_bind (wpAny_pure ?_) | skip
 refine wpAny_bind (wpAny_sequenceKey ht.typeIs (by decide) ?_)
 refine wpAny_bind (wpAny_callSpecial?_slot (name:=ofString "__getitem__") ht.typeIs PyProof.Rows.slot_tuple_getitem
  (wpAny_call_entry PyProof.Rows.slot_tuple_getitem ht.typeIs entry_tuple_getitem ?_ (args_tuple_getitem _ _)))
 show wpAny _ _ (tupleItemsOf (.ref t) >>= _) _ _ s
 refine wpAny_bind (tupleItemsOf_ ht ?_)
 refine wpAny_bind (wpAny_typeOf oE ?_)
 rw [if_pos (by decide)]
 refine wpAny_bind (Fz hs pl pu ?_)
 have iC:¬ ((((sIx ag.size 0 lo:Nat):Int) == 0&&(1:Int) == 1&&(sIx ag.size ag.size hi - sIx ag.size 0 lo) == ag.size)=true):=by
  intro q
  rw [and_eq_true,and_eq_true] at q
  have q1:((sIx ag.size 0 lo:Nat):Int)=0:=eq_of_beq q.1.1
  have q2:sIx ag.size ag.size hi - sIx ag.size 0 lo=ag.size:=eq_of_beq q.2
  exact hw ⟨by omega,by omega⟩
 show wpAny _ _ (if (((sIx ag.size 0 lo:Nat):Int) == 0&&(1:Int) == 1&&(sIx ag.size ag.size hi - sIx ag.size 0 lo) == ag.size)=true then _ else _) _ _ s
 rw [if_neg iC,Lm]
 first
  | exact wpAny_bind (m:=tupleExact _) (wpAny_newObj_type (wpAny_pure ⟨_,rfl,wpAny_pure h⟩) dA)
  | exact wpAny_bind (m:=tupleExact _) (wpAny_newObj_type (wpAny_bind (wpAny_pure (wpAny_pure ⟨_,rfl,wpAny_pure h⟩))) dA)
  | exact wpAny_bind (wpAny_bind (m:=tupleExact _) (wpAny_newObj_type (wpAny_pure (wpAny_pure ⟨_,rfl,wpAny_pure h⟩)) dA))
  | exact wpAny_bind (wpAny_bind (m:=tupleExact _) (wpAny_newObj_type (wpAny_pure ⟨_,rfl,wpAny_pure h⟩) dA))
end
end HT
namespace L2
open PySem PySem.Spec PyProof.Rows
abbrev TO:=St->Hp->(Option Int->Hp->Prop)->Prop
def PO (X:Cx) (e:Option Expr) (t:TO):Prop :=
 ∀ (aa:List (Addr×Obj)) (s:Shared) (U:St) (H:Hp) (Q:Option Int->Hp->Prop),Inv X aa U H s->t U H Q →
  wpAny (model X.prog X.w) X.A (evalPart e X.env) (λu s'=>∃ o H',Inv X aa U H' s'/\IsPart u o/\Q o H') X.xe s
def tNoPart:TO:=λ_ H Q=>Q none H
noncomputable def tPart (t:TE):TO:=λU H Q=>t U H λx H1=>∃ i,x=.int i/\Q (some i) H1
section
variable {X:Cx}{e:Expr}{te:TE}{lo hi:Option Expr}{tl th:TO}{pos p2:Pos}
theorem Hc:PO X none tNoPart:=by
 intro aa s U H Q I h
 rw [evalPart_none]
 exact wpAny_pure ⟨none,H,I,.none,h⟩
theorem EX (h:PE X e te):PO X (some e) (tPart te):=by
 intro aa s U H Q I hw
 rw [evalPart_some]
 refine thn (h aa s U H _ I hw) λu s1 ⟨x,H1,I1,r1,q1⟩=>?_
 obtain ⟨i,rfl,q⟩:=q1
 obtain ⟨t,rfl⟩:=r1
 exact ⟨some i,H1,I1,.int i t,q⟩
def SlR (X:Cx) (r:V->Option Int->Option Int->Hp->VK->Prop):Prop :=
 ∀ (aa:List (Addr×Obj)) (s:Shared) (U:St) (H:Hp) (x:V) (v vl vu:Value) (lo hi:Option Int) (sl:Addr) (Q:VK),Inv X aa U H s->RelV x v->s.heap.IsSliceOf sl vl vu .none->IsPart vl lo->IsPart vu hi->r x lo hi H Q →
  ∃ T id,typeLookup (.type T) "__getitem__"=pure (some (.builtin id))/\s.TypeIs v T/\wpAny (model X.prog X.w) X.A (getItem v (.ref sl)) (EP X aa U Q) X.xe s
theorem SlR.or {r r':V->Option Int->Option Int->Hp->VK->Prop} (h:SlR X r) (h':SlR X r'):SlR X (λx lo hi H Q=>r x lo hi H Q\/r' x lo hi H Q):=by
 intro aa s U H x v vl vu lo hi sl Q I rx hs pl pu q
 rcases q with q | q
 ·exact h aa s U H x v vl vu lo hi sl Q I rx hs pl pu q
 ·exact h' aa s U H x v vl vu lo hi sl Q I rx hs pl pu q
noncomputable def tSl (r:V->Option Int->Option Int->Hp->VK->Prop) (te:TE) (tl th:TO):TE:=λU H Q=>te U H λx H1=>tl U H1 λl H2=>th U H2 λu H3=>r x l u H3 Q
theorem F3 {r:V->Option Int->Option Int->Hp->VK->Prop} (hr:SlR X r) (he:PE X e te) (hl:PO X lo tl) (hu:PO X hi th):PE X (.Subscript e (.Slice lo hi none p2) pos) (tSl r te tl th):=by
 intro aa s U H Q I h
 refine Subscript_ (thn (he aa s U H _ I h) λv s1 ⟨x,H1,I1,r1,q1⟩=>?_)
 refine wpAny_Slice (thn (hl aa s1 U H1 _ I1 q1) λvl s2 ⟨l,H2,I2,pl,q2⟩=>thn (hu aa s2 U H2 _ I2 q2) λvu s3 ⟨u,H3,I3,pu,q3⟩=>?_)
 rw [evalPart_none]
 refine wpAny_pure ?_
 have I4:Inv X aa U H3 { s3 with heap:=s3.heap.push { cls:=.type "slice", data:=.fields #[vl,vu,.none] } }:=I3.kept (t':=s3.toks) λb ob q=>get?_push_of_some _ q
 obtain ⟨T,id,hT,ht,hg⟩:=hr aa { s3 with heap:=s3.heap.push { cls:=.type "slice", data:=.fields #[vl,vu,.none] } } U H3 x v vl vu l u s3.heap.objs.size Q I4 r1 (Heap.IsSliceOf.new ..) pl pu q3
 show wpAny (model X.prog X.w) X.A (subscriptTail e (.Slice lo hi none p2) v (.ref s3.heap.objs.size)) (EP X aa U Q) X.xe { s3 with heap:=s3.heap.push { cls:=.type "slice", data:=.fields #[vl,vu,.none] } }
 exact tail_any (ops:=[.ref s3.heap.objs.size,v]) ht hT hg (by with_unfolding_all rfl)
noncomputable def cutV (xs:List V) (lo hi:Option Int):List V:=(xs.drop (HT.sIx xs.length 0 lo)).take (HT.sIx xs.length xs.length hi - HT.sIx xs.length 0 lo)
theorem Bx (xs:List V) (lo hi:Option Int):(cutV xs lo hi).length<=xs.length:=by
 unfold cutV
 rw [length_take,length_drop]
 omega
def rSlT (K:PySem.W.Frag):V->Option Int->Option Int->Hp->VK->Prop:=λx lo hi H Q=>∃ a xs,x=.ref a/\SqT K H a xs ∧
 ¬ (HT.sIx xs.length 0 lo=0/\HT.sIx xs.length xs.length hi=xs.length)/\∀ p,H p=none->Q (.ref p) (upd H p (.tup (cutV xs lo hi)))
theorem L7:SlR X (rSlT X.K):=by
 intro aa s U H x v vl vu lo hi sl Q I rx hs pl pu h
 obtain ⟨a,xs,rfl,hx,hw,q⟩:=h
 cases rx
 obtain ⟨ac,r,ht,hz⟩:=I.tuple hx
 have aJ:ac.toArray.size=xs.length:=by rw [size_toArray];exact r.length.symm
 refine ⟨"tuple", _,PyProof.Rows.slot_tuple_getitem.lookup,ht.typeIs,?_⟩
 refine HT.Fg ht hs pl pu (by rw [aJ];exact hw) ?_ (by rw [aJ];exact hz)
 rw [aJ]
 refine ⟨.ref s.heap.objs.size,_,I.laid (t':=s.toks) (o:=.tup (cutV xs lo hi)) (λb ob q=>get?_push_of_some _ q) (le_refl _) ?_,rfl,q _ (I.hok.fresh (le_refl _))⟩
 exact ⟨le_trans (Bx xs lo hi) hz,_,(r.drop (HT.sIx xs.length 0 lo)).take (HT.sIx xs.length xs.length hi - HT.sIx xs.length 0 lo),IsTup.new _ _⟩
noncomputable def rCatT (K:PySem.W.Frag):R2:=λx y H Q=>∃ a b xs ys,x=.ref a/\y=.ref b/\SqT K H a xs/\SqT K H b ys/\xs≠[]/\xs.length+ys.length<=sizeLine ∧
 (ys=[]->Q (.ref a) H)/\(ys≠[]->∀ p,H p=none->Q (.ref p) (upd H p (.tup (xs++ys))))
theorem Vals.nil_iff {xs:List V}{us:List Value} (r:Vals xs us):us=[]↔xs=[]:=by
 cases r with
 | nil=>simp
 | cons _ _=>simp
theorem JY:OpR X (binaryOp .Add) (rCatT X.K):=by
 intro aa s U H x y v u Q I rx ry h
 obtain ⟨a,b,xs,ys,rfl,rfl,ha,hb,hx,hz,q1,q2⟩:=h
 cases rx
 cases ry
 obtain ⟨ac,r1,p1,_⟩:=I.tuple ha
 obtain ⟨bS,r2,p2,_⟩:=I.tuple hb
 refine HT.Km p1 p2 (λz=>hx (r1.nil_iff.mp z)) (λz=>⟨.ref a,H,I,rfl,q1 (r2.nil_iff.mp z)⟩) (λz=>?_) (by rw [← r1.length,← r2.length];exact hz)
 refine ⟨.ref s.heap.objs.size,_,I.laid (t':=s.toks) (o:=.tup (xs++ys)) (λb ob q=>get?_push_of_some _ q) (le_refl _) ?_,rfl,q2 (λw=>z (r2.nil_iff.mpr w)) _ (I.hok.fresh (le_refl _))⟩
 exact ⟨by rw [length_append];exact hz,_,r1.append r2,IsTup.new _ _⟩
end
noncomputable def ixN (n:Nat) (i:Int):Option Nat:=if 0<=i then (if i < n then some i.toNat else none) else if -(n:Int)<=i then some (i+n).toNat else none
noncomputable def atI {α:Type} (xs:List α) (i:Int):Option α:=(ixN xs.length i).bind λj=>xs[j]?
theorem BN {n:Nat}{i:Int}{j:Nat} (h:ixN n i=some j):seqIndex? i n=some j/\j < n/\-(n:Int)<=i/\i < n:=by
 unfold ixN at h
 by_cases h0:0<=i
 ·rw [if_pos h0] at h
  by_cases h1:i < n
  ·rw [if_pos h1] at h
   have e:i.toNat=j:=Option.some.inj h
   exact ⟨by rw [seqIndex_of h0 h1,e],by omega,by omega,h1⟩
  ·rw [if_neg h1] at h;cases h
 ·rw [if_neg h0] at h
  by_cases h1:-(n:Int)<=i
  ·rw [if_pos h1] at h
   have e:(i+n).toNat=j:=Option.some.inj h
   exact ⟨by rw [seqIndex_neg (by omega) h1,e],by omega,h1,by omega⟩
  ·rw [if_neg h1] at h;cases h
theorem Ev {α:Type}{xs:List α}{i:Int}{v:α} (h:atI xs i=some v):∃ j,seqIndex? i xs.length=some j/\xs[j]?=some v/\j < xs.length/\-(xs.length:Int)<=i/\i < xs.length:=by
 unfold atI at h
 cases e:ixN xs.length i with
 | none=>rw [e] at h;cases h
 | some j =>
  rw [e] at h
  obtain ⟨h1,h2,h3,h4⟩:=BN e
  exact ⟨j,h1,h,h2,h3,h4⟩
def PlainIx (b:Expr):Prop:=∀ o i,subscripted b false o i=operate [o,i] (getItem o i)
def IxR (X:Cx) (r:R2):Prop :=
 ∀ (value bV:Expr) (aa:List (Addr×Obj)) (s:Shared) (U:St) (H:Hp) (x y:V) (v u:Value) (Q:VK),Inv X aa U H s->RelV x v->RelV y u->r x y H Q →
  subscripted bV false v u=operate [v,u] (getItem v u)->wpAny (model X.prog X.w) X.A (subscriptTail value bV v u) (EP X aa U Q) X.xe s
def MtR (X:Cx) (id:String) (r:V->List V->Hp->VK->Prop):Prop :=
 ∀ (aa:List (Addr×Obj)) (s:Shared) (U:St) (H:Hp) (x:V) (xs:List V) (v:Value) (us:List Value) (Q:VK),Inv X aa U H s->RelV x v->Vals xs us->r x xs H Q →
  wpAny (model X.prog X.w) X.A (call (.builtin id) (v::us)) (EP X aa U Q) X.xe s
section
variable {X:Cx}{a b:Expr}{ta tb:TE}{pos:Pos}
theorem IxR.or {r r':R2} (h:IxR X r) (h':IxR X r'):IxR X (λx y H Q=>r x y H Q\/r' x y H Q):=by
 intro value bV aa s U H x y v u Q I rx ry q hs
 rcases q with q | q
 ·exact h value bV aa s U H x y v u Q I rx ry q hs
 ·exact h' value bV aa s U H x y v u Q I rx ry q hs
theorem Es {r:R2} (hr:IxR X r) (ha:PE X a ta) (hb:PE X b tb) (hs:PlainIx b):PE X (.Subscript a b pos) (tOp r ta tb):=by
 intro aa s U H Q I h
 exact Subscript_ (binT ha hb I h λv u s2 x y H2 I2 rx ry q=>hr a b aa s2 U H2 x y v u Q I2 rx ry q (hs _ _))
noncomputable def rIxL (K:PySem.W.Frag):R2:=λx y H Q=>∃ p xs i v,x=.ref p/\y=.int i/\SqL K H p xs/\atI xs i=some v/\Q v H
noncomputable def rIxT (K:PySem.W.Frag):R2:=λx y H Q=>∃ p xs i v,x=.ref p/\y=.int i/\SqT K H p xs/\atI xs i=some v/\Q v H
theorem Ef:IxR X (rIxL X.K):=by
 intro value bV aa s U H x y v u Q I rx ry h hs
 obtain ⟨p,xs,i,z,rfl,rfl,hq,he,q⟩:=h
 cases rx
 obtain ⟨t,rfl⟩:=ry
 obtain ⟨ac,r,pl,hz⟩:=I.list hq
 obtain ⟨j,h1,h2,h3,h4,h5⟩:=Ev he
 obtain ⟨w,ew,jS⟩:=r.get h2
 have hl:=r.length
 have hn:=line63
 have fin:EP X aa U Q w s:=⟨z,H,I,jS,q⟩
 by_cases h0:0<=i
 ·have hj:i.toNat=j:=by
   rw [seqIndex_of h0 h5] at h1
   exact Option.some.inj h1
  exact item_listR pl.isList h0 (by omega) (by rw [hj];simpa using ew) fin hs
 ·have hj:(i+(ac.toArray.size:Int)).toNat=j:=by
   rw [seqIndex_neg (by omega) h4] at h1
   rw [size_toArray,← hl]
   exact Option.some.inj h1
  exact subscriptTail_builtinR (x:=w) pl.isList.typeIs slot_list_getitem.lookup
   (wpAny_getItem_list_neg (Q:=λr s'=>r=w/\EP X aa U Q r s') pl.isList (by omega) (by rw [size_toArray]<;>omega) (by omega) (by rw [hj];simpa using ew) ⟨rfl,fin⟩) hs
theorem Kq:IxR X (rIxT X.K):=by
 intro value bV aa s U H x y v u Q I rx ry h hs
 obtain ⟨p,xs,i,z,rfl,rfl,hq,he,q⟩:=h
 cases rx
 obtain ⟨t,rfl⟩:=ry
 obtain ⟨ac,r,pl,hz⟩:=I.tuple hq
 obtain ⟨j,h1,h2,h3,h4,h5⟩:=Ev he
 obtain ⟨w,ew,jS⟩:=r.get h2
 have hl:=r.length
 have hn:=line63
 have fin:EP X aa U Q w s:=⟨z,H,I,jS,q⟩
 exact subscriptTail_builtinR (x:=w) pl.typeIs slot_tuple_getitem.lookup
  (getItem_tuple (j:=j) (Q:=λr s'=>r=w/\EP X aa U Q r s') pl (by omega) (by omega) (by rw [size_toArray,← hl];exact h1) (by simpa using ew) ⟨rfl,fin⟩) hs
theorem LD (ac:List Value) (n j:Nat) (u:Value):mapSeq (·.setIfInBounds j u) { cls:=.type "list", data:=.seq ac.toArray n }={ cls:=.type "list", data:=.seq (ac.set j u).toArray n }:=by
 simp [mapSeq]
theorem Inv.lst {aa:List (Addr×Obj)}{U:St}{H:Hp}{s:Shared}{p:Addr}{xs:List V} (I:Inv X aa U H s) (h:H p=some (.lst xs)) :
  ∃ (ac:List Value) (n:Nat),Vals xs ac/\s.heap.get? p=some { cls:=.type "list", data:=.seq ac.toArray n }/\xs.length<=sizeLine:=by
 obtain ⟨z,ac,n,r,e⟩:=I.hok p _ h
 exact ⟨ac,n,r,e,z⟩
theorem Inv.lstUpd {aa:List (Addr×Obj)}{U:St}{H:Hp}{s:Shared}{p:Addr}{xs ys:List V}{ac its':List Value}{n n':Nat}{f:Obj->Obj} (I:Inv X aa U H s) (h:H p=some (.lst xs))
  (ho:s.heap.get? p=some { cls:=.type "list", data:=.seq ac.toArray n }) (hf:f { cls:=.type "list", data:=.seq ac.toArray n }={ cls:=.type "list", data:=.seq its'.toArray n' }) (r:Vals ys its') (hz:ys.length<=sizeLine) (t:Nat) :
  Inv X aa U (upd H p (.lst ys)) { s with heap:=s.heap.update p f,toks:=t }:=by
 have e:(s.heap.update p f).get? p=some { cls:=.type "list", data:=.seq its'.toArray n' }:=by
  rw [get?_update_self f ho (by rw [hf]<;>rfl),hf]
 refine I.write (x:=p) (e:=p) (by rw [h];trivial) (.inl rfl) (λb u hb q=>(get?_update_other _ _ (Ne.symm hb)).trans q) ⟨_,e⟩ ?_
 exact ⟨hz,its',n',r,e⟩
def rSetL:V->V->V->Hp->(Hp->Prop)->Prop:=λo i v H Q=>∃ p xs k j,o=.ref p/\i=.int k/\H p=some (.lst xs)/\ixN xs.length k=some j/\Q (upd H p (.lst (xs.set j v)))
theorem IU:PSet X rSetL:=by
 intro aa s U H o i v ov iv u Q I ro ri rv h
 obtain ⟨p,xs,k,j,rfl,rfl,hp,hj,q⟩:=h
 cases ro
 obtain ⟨t,rfl⟩:=ri
 obtain ⟨ac,n,r,ho,hz⟩:=I.lst hp
 obtain ⟨h1,h2,h3,h4⟩:=BN hj
 have hl:=r.length
 have hn:=line63
 have I':Inv X aa U (upd H p (.lst (xs.set j v))) { s with heap:=s.heap.update p (mapSeq (·.setIfInBounds j u)) } :=
  I.lstUpd hp ho (LD ac n j u) (r.set rv j) (by rw [length_set];exact hz) s.toks
 by_cases h0:0<=k
 ·have hk:k.toNat=j:=by
   rw [seqIndex_of h0 h4] at h1
   exact Option.some.inj h1
  exact PySem.W.ki_setAt ho h0 (by omega) (by rw [size_toArray,← hl];exact h4) (by rw [hk];exact ⟨_,I',q⟩)
 ·have hk:(k+(ac.toArray.size:Int)).toNat=j:=by
   rw [seqIndex_neg (by omega) h3] at h1
   rw [size_toArray,← hl]
   exact Option.some.inj h1
  exact PySem.W.ki_setBack ho (by omega) (by rw [size_toArray,← hl];exact h3) (by omega) (by rw [hk];exact ⟨_,I',q⟩)
theorem ID (lo hi:Option Int) (n:Nat):(sliceBounds lo hi none n).1=((HT.sIx n 0 lo:Nat):Int)/\(sliceBounds lo hi none n).2.1=((HT.sIx n n hi:Nat):Int)/\(sliceBounds lo hi none n).2.2=1:=by
 refine ⟨?_,?_,rfl⟩
 ·cases lo with
  | none=>simp [sliceBounds,HT.sIx]
  | some i =>
   simp only [sliceBounds,HT.sIx,getD_none,show (1:Int) > 0 by decide,if_true]
   by_cases h:i < 0
   ·simp only [h,if_true]<;>omega
   ·simp only [h,if_false]<;>omega
 ·cases hi with
  | none=>simp [sliceBounds,HT.sIx]
  | some i =>
   simp only [sliceBounds,HT.sIx,getD_none,show (1:Int) > 0 by decide,if_true]
   by_cases h:i < 0
   ·simp only [h,if_true]<;>omega
   ·simp only [h,if_false]<;>omega
theorem LX (ac:List Value) (lo hi:Option Int):slicePick ac.toArray lo hi none=((ac.drop (HT.sIx ac.length 0 lo)).take (HT.sIx ac.length ac.length hi - HT.sIx ac.length 0 lo)).toArray:=by
 obtain ⟨h1,h2,h3⟩:=ID lo hi ac.toArray.size
 unfold slicePick
 rw [h1,h2,h3]
 simp only [sliceRange_one,pick_run,size_toArray]<;>rfl
def rSlL (K:PySem.W.Frag):V->Option Int->Option Int->Hp->VK->Prop:=λx lo hi H Q=>∃ a xs,x=.ref a/\SqL K H a xs/\∀ p,H p=none->Q (.ref p) (upd H p (.lst (cutV xs lo hi)))
theorem E9:SlR X (rSlL X.K):=by
 intro aa s U H x v vl vu lo hi sl Q I rx hs pl pu h
 obtain ⟨a,xs,rfl,hx,q⟩:=h
 cases rx
 obtain ⟨ac,r,ht,hz⟩:=I.list hx
 have aJ:=r.length
 refine ⟨"list", _,slot_list_getitem.lookup,ht.isList.typeIs,?_⟩
 refine wpAny_getItem_list_slice ht.isList hs pl pu .none (by simp) ?_ (by rw [size_toArray]<;>omega)
 rw [LX,← aJ]
 refine ⟨.ref s.heap.objs.size,_,I.laid (t':=s.toks) (o:=.lst (cutV xs lo hi)) (λb ob q=>get?_push_of_some _ q) (le_refl _) ?_,rfl,q _ (I.hok.fresh (le_refl _))⟩
 exact ⟨le_trans (Bx xs lo hi) hz,_,0,(r.drop (HT.sIx xs.length 0 lo)).take (HT.sIx xs.length xs.length hi - HT.sIx xs.length 0 lo),get?_push_size _ rfl⟩
theorem Bb:CallR X (.builtin "len") (λxs H Q=>∃ p ys,xs=[.ref p]/\(SqL X.K H p ys\/SqT X.K H p ys)/\Q (.int ys.length) H):=by
 intro aa s U H xs us Q I r h
 obtain ⟨p,ys,rfl,hq,q⟩:=h
 obtain ⟨u,rfl,rx⟩:=vals1 r
 cases rx
 have hn:=line63
 rcases hq with hq | hq
 ·obtain ⟨ac,r',pl,hz⟩:=I.list hq
  have aJ:=r'.length
  exact Calls.call_len_list pl.isList (by simp only [size_toArray]<;>omega) ⟨.int ys.length,H,I.tok _,⟨s.toks+1,by rw [size_toArray,aJ]⟩,q⟩
 ·obtain ⟨ac,r',pl,hz⟩:=I.tuple hq
  have aJ:=r'.length
  exact len_tuple pl (by simp only [size_toArray]<;>omega) ⟨.int ys.length,H,I.tok _,⟨s.toks+1,by rw [size_toArray,aJ]⟩,q⟩
theorem Lj:CallR X (.type "list") (λxs H Q=>∃ p ys,xs=[.ref p]/\(SqL X.K H p ys\/SqT X.K H p ys)/\∀ l,H l=none->Q (.ref l) (upd H l (.lst ys))):=by
 intro aa s U H xs us Q I r h
 obtain ⟨p,ys,rfl,hq,q⟩:=h
 obtain ⟨u,rfl,rx⟩:=vals1 r
 cases rx
 have fin:∀ (ac:List Value),Vals ys ac->ys.length<=sizeLine->∀ (h':Heap) (c':Nat),(∀ b o',s.heap.get? b=some o'->h'.get? b=some o') →
   h'.get? s.heap.objs.size=some { cls:=.type "list", dict:=none,data:=.seq ac.toArray c',slots:=#[] }->EP X aa U Q (.ref s.heap.objs.size) { s with heap:=h' }:=λac r' hz h' c' kp e =>
  ⟨.ref s.heap.objs.size,_,I.laid (t':=s.toks) kp (le_refl _) (show ObjOk X.prog X.w _ h' _ (.lst ys) from ⟨hz,ac,c',r',e⟩),rfl,q _ (I.hok.fresh (le_refl _))⟩
 rcases hq with hq | hq
 ·obtain ⟨ac,r',pl,hz⟩:=I.list hq
  have aJ:=r'.length
  obtain ⟨o,ho,hc,n,hd⟩:=pl.isList
  exact call_list_seq p (.inl rfl) ho hc hd (λh' c' kp e=>fin ac r' hz h' c' kp e) (by simp only [size_toArray]<;>omega)
 ·obtain ⟨ac,r',pl,hz⟩:=I.tuple hq
  have aJ:=r'.length
  obtain ⟨o,ho,hc,n,hd⟩:=pl
  exact call_list_seq p (.inr rfl) ho hc hd (λh' c' kp e=>fin ac r' hz h' c' kp e) (by simp only [size_toArray]<;>omega)
theorem Jt:CallR X (.type "tuple") (λxs H Q=>∃ p ys,xs=[.ref p]/\((SqL X.K H p ys/\∀ l,H l=none->Q (.ref l) (upd H l (.tup ys)))\/(SqT X.K H p ys/\Q (.ref p) H))):=by
 intro aa s U H xs us Q I r h
 obtain ⟨p,ys,rfl,h⟩:=h
 obtain ⟨u,rfl,rx⟩:=vals1 r
 cases rx
 rcases h with ⟨hq,q⟩ | ⟨hq,q⟩
 ·obtain ⟨ac,r',pl,hz⟩:=I.list hq
  have aJ:=r'.length
  refine call_tuple_list pl.isList (λh' kp=>?_) (by simp only [size_toArray]<;>omega)
  have I1:Inv X aa U H { s with heap:=h' }:=I.kept (t':=s.toks) kp
  have I2:Inv X aa U (upd H h'.objs.size (.tup ys)) { s with heap:=h'.push { cls:=.type "tuple", data:=.seq ac.toArray } } :=
   I1.laid (t':=s.toks) (λb o e=>get?_push_of_some _ e) (le_refl _) (show ObjOk X.prog X.w _ _ _ (.tup ys) from ⟨hz,ac,r',IsTup.new _ _⟩)
  exact ⟨.ref h'.objs.size,_,I2,rfl,q _ (I1.hok.fresh (le_refl _))⟩
 ·obtain ⟨ac,r',pl,hz⟩:=I.tuple hq
  exact call_tuple_same pl ⟨.ref p,H,I,rfl,q⟩
def tyV (K:PySem.W.Frag) (T:String) (x:V) (H:Hp):Prop:=match x with
 | .str _=>T = "str"
 | .int _=>T = "int"
 | .ref p=>(T = "list"/\∃ xs,SqL K H p xs)\/(T = "tuple"/\∃ o,K.lookup p=some o/\o.cls=.type "tuple"/\o.dict=none) ∨
   (T = "dict"/\((∃ aO,H p=some (.dK aO))\/∃ aO,H p=some (.dT aO)))\/(T = "set"/\∃ S n,H p=some (.set S n))
 | _=>False
theorem Jf {aa:List (Addr×Obj)}{U:St}{H:Hp}{s:Shared}{T:String}{x:V}{v:Value} (I:Inv X aa U H s) (r:RelV x v) (ty:tyV X.K T x H) :
  s.TypeIs v T/\∀ a,v=.ref a->∃ ob,s.heap.get? a=some ob/\ob.dict=none:=by
 cases x with
 | str z =>
  obtain ⟨t,rfl⟩:=r
  cases (show T = "str" from ty)
  exact ⟨typeIs_str s z t,λ_ e=>nomatch e⟩
 | int i =>
  obtain ⟨t,rfl⟩:=r
  cases (show T = "int" from ty)
  exact ⟨typeIs_int s i t,λ_ e=>nomatch e⟩
 | ref p =>
  cases r
  rcases ty with ⟨rfl,xs,hq⟩ | ⟨rfl,o,hk,hc,hd⟩ | ⟨rfl,hk⟩ | ⟨rfl,S,n,hk⟩
  ·obtain ⟨ac,_,pl,_⟩:=I.list hq
   refine ⟨pl.isList.typeIs,λa e=>?_⟩
   cases e
   obtain ⟨o,n,e,c,hd,_⟩:=pl
   exact ⟨o,e,hd⟩
  ·refine ⟨⟨o,I.kIn p o hk,hc⟩,λa e=>?_⟩
   cases e
   exact ⟨o,I.kIn _ o hk,hd⟩
  ·have z:∃ o,s.heap.get? p=some o/\o.ExactDict:=by
    rcases hk with ⟨aO,hk⟩ | ⟨aO,hk⟩
    ·obtain ⟨_,_,_,_,o,_,_,e,ex,_⟩:=I.hok p _ hk
     exact ⟨o,e,ex⟩
    ·obtain ⟨_,_,_,_,o,_,_,e,ex,_⟩:=I.hok p _ hk
     exact ⟨o,e,ex⟩
   obtain ⟨o,e,ex⟩:=z
   refine ⟨⟨o,e,ex.1⟩,λa e2=>?_⟩
   cases e2
   exact ⟨o,e,ex.2.1⟩
  ·obtain ⟨o,_,_,_,e,ex,_⟩:=I.hok p _ hk
   refine ⟨⟨o,e,ex.1⟩,λa e2=>?_⟩
   cases e2
   exact ⟨o,e,ex.2.1⟩
 | _=>exact elim ty
noncomputable def tBM (K:PySem.W.Frag) (T:String) (r:V->List V->Hp->VK->Prop) (to:TE) (t:TA):TE:=λU H Q=>to U H λx H1=>tyV K T x H1/\t U H1 λxs H2=>r x xs H2 Q
variable {o e:Expr}{es:List Expr}{to:TE}{t:TA}{name:Str}{bc aF:Pos}{T id:String}{r:V->List V->Hp->VK->Prop}
theorem Cs (pa:PlainAttrs T) (slot:Slot T name id) (oF:typeOf (.builtin id)=pure (.type "method_descriptor")) (hm:MtR X id r) (ho:PE X o to) (ha:PA X (e::es) t)
  (cV:attributeBase o name X.env (eval o X.env)=eval o X.env:=by rfl)
  (ca:((backTo aF (starEach (e::es) X.env)).all (λx=>!x.1)&&(backToKw aF (keywordEach [] X.env)).all (λx=>x.1.isSome)
   &&decide ((e::es).length+([]:List Keyword).length+(if ([]:List Keyword).isEmpty then 0 else 1) < 30))=true:=by rfl)
  (cW:(bc.endLine == aF.line)=true:=by rfl) (hs:starEach (e::es) X.env=(false,eval e X.env)::starEach es X.env:=by rfl) (cb:(backTo aF (starEach es X.env)).any (·.1)=false:=by rfl) :
  PE X (.Call (.Attribute o name bc) (e::es) [] aF) (tBM X.K T r to t):=by
 intro aa s U H Q I h
 refine wpAny_Call_method_late cV ca cW rfl (thn (ho aa s U H _ I h) λv s1 ⟨x,H1,I1,r1,ty,q1⟩=>?_)
 obtain ⟨h1,h2⟩:=Jf I1 r1 ty
 refine ⟨T,id,pa,slot,oF,h1,h2,?_⟩
 have hA:=ha aF aa s1 U H1 _ I1 q1
 rw [hs] at hA ⊢
 refine Calls.callWith_builtin (by show (false||(backTo aF (starEach es X.env)).any (·.1))=false;rw [cb]<;>rfl) (Calls.evalArgs_plain ?_)
 exact thn hA λus s2 ⟨vs,H2,I2,r2,q2⟩=>hm aa s2 U H2 x vs v us Q I2 r1 r2 q2
end
def MtM (X:Cx) (id:String) (r:V->List V->Hp->VK->Prop):Prop :=
 ∀ (aa:List (Addr×Obj)) (s:Shared) (U:St) (H:Hp) (x:V) (xs:List V) (v:Value) (us:List Value) (Q:VK),Inv X aa U H s->RelV x v->Vals xs us->r x xs H Q →
  wpAny (model X.prog X.w) X.A (call (.builtin id) (v::us)) (EP X aa U Q) X.xe s
theorem Vals.one:∀ {x:V}{us:List Value},Vals [x] us->∃ u,us=[u]/\RelV x u
 | _,_,.cons r .nil=>⟨_,rfl,r⟩
theorem Vals.two:∀ {x y:V}{us:List Value},Vals [x,y] us->∃ u v,us=[u,v]/\RelV x u/\RelV y v
 | _,_,_,.cons r (.cons q .nil)=>⟨_,_,rfl,r,q⟩
section
variable {X:Cx}{aa:List (Addr×Obj)}{U:St}{H:Hp}{s:Shared}{l b:Addr}{xs ys zs:List V}
theorem Inv.lset {ac its':List Value}{n:Nat}{f:Array Value->Array Value}{t':Nat} (I:Inv X aa U H s) (hH:H l=some (.lst xs))
  (e:s.heap.get? l=some { cls:=.type "list", data:=.seq ac.toArray n }) (hf:f ac.toArray=its'.toArray) (hv:Vals ys its') (hz:ys.length<=sizeLine) :
  Inv X aa U (upd H l (.lst ys)) { s with heap:=s.heap.update l (mapSeq f),toks:=t' }:=by
 have q:=PySem.IsL.update e f
 rw [hf] at q
 refine I.write (x:=l) (e:=l) (by rw [hH];exact trivial) (.inl rfl) (λb' u hb hu=>(get?_update_other s.heap (mapSeq f) (Ne.symm hb)).trans hu) ⟨_,q⟩ ?_
 exact ⟨hz,its',_,hv,q⟩
theorem Inv.lnew {ac:List Value}{t':Nat} (I:Inv X aa U H s) (hv:Vals ys ac) (hz:ys.length<=sizeLine) :
  Inv X aa U (upd H s.heap.objs.size (.lst ys)) { s with heap:=s.heap.push { cls:=.type "list", data:=.seq ac.toArray },toks:=t' } :=
 I.laid (λ_ _ q=>get?_push_of_some _ q) (le_refl _) ⟨hz,ac,0,hv,get?_push_size _ rfl⟩
theorem Inv.fresh (I:Inv X aa U H s):H s.heap.objs.size=none:=I.hok.fresh (le_refl _)
theorem Inv.lstM (I:Inv X aa U H s) (hH:H l=some (.lst xs)):xs.length<=sizeLine/\∃ (ac:List Value) (n:Nat),Vals xs ac/\xs.length=ac.length/\s.heap.get? l=some { cls:=.type "list", data:=.seq ac.toArray n }:=by
 obtain ⟨z,ac,n,r,e⟩:=I.hok l _ hH
 exact ⟨z,ac,n,r,r.length,e⟩
theorem notLongL {n:Nat} (h:n<=sizeLine):listTooLong n=false:=by
 unfold listTooLong
 exact decide_eq_false (by omega)
end
section
variable {X:Cx}
def rAppend:V->List V->Hp->VK->Prop:=λx vs H Q=>∃ l xs y,x=.ref l/\vs=[y]/\H l=some (.lst xs)/\xs.length < sizeLine/\Q .non (upd H l (.lst (xs++[y])))
theorem Ey:MtM X "list.append" rAppend:=by
 intro aa s U H x vs v us Q I rx rv h
 obtain ⟨l,xs,y,rfl,rfl,hH,hz,q⟩:=h
 cases rx
 obtain ⟨u,rfl,ru⟩:=rv.one
 obtain ⟨z,ac,n,r,hl,e⟩:=I.lstM hH
 refine call_meets F.slot_list_append ⟨_,e,rfl⟩ F.entry_list_append (F.args_list_append_2 _ _) (PySem.list_append l ac.toArray n u (by rw [size_toArray];omega)) ⟨e,?_⟩
 refine ⟨.non,_,I.lset (its':=ac++[u]) hH e (by simp) (r.append (.cons ru .nil)) ?_,rfl,q⟩
 rw [length_append,List.length_singleton]
 omega
end
end L2
namespace Att
open PySem PySem.W PySem.Calls PyProof.Rows
theorem LN {P:Params}{h:Heap}:∀ (ns:List Int) (vs:List Value),WellAll P h vs (ns.map WData.int)->IntsAre vs ns:=by
 intro ns
 induction ns with
 | nil =>
  intro vs w
  rw [List.map_nil] at w
  cases w
  exact .nil
 | cons n ns ih =>
  intro vs w
  rw [map_cons] at w
  cases w with
  | cons a b =>
   cases a
   exact .cons _ _ (ih _ b)
theorem Lp {l:OpenLaw}{n:Nat} (hn:l.most=some n){P:Params}{h:Heap}{args:List WData}{fZ:List Value}
  (ft:l.row.toRowW.claim.pre args=true) (jT:WellAll P h fZ args) :
  ∃ a vs ns,fZ=[Value.ref a]/\args=[WData.list (ns.map WData.int)]/\h.get? a=some { cls:=.type "list", data:=.seq vs.toArray }/\IntsAre vs ns/\ns.length<=n:=by
 have oG:WShape.hasAll [] args [.list .int]=true:=(pre_splitW ft).1
 have hc:l.pre.holds [] { args:=args }=true:=(pre_splitW ft).2
 obtain ⟨d,r,rfl,h1,h2⟩:=hasAllW_cons oG
 obtain rfl:=hasAllW_nil h2
 obtain ⟨xs,rfl,h3⟩:=hasW_list h1
 obtain ⟨ns,rfl⟩:=items_int h3
 have aJ:ns.length<=n:=by
  unfold OpenLaw.pre at hc
  have h4:(WTm.not (.lt (.lit (.int (n:Int))) (.len (.arg 0)))).holds [] { args:=[.list (ns.map .int)] }=true:=by
   have h4:=(holds_andW hc).1
   rw [hn] at h4
   exact h4
  have h5:=condW_of h4 (w_not (w_lt w_lit (w_len_list (w_arg rfl))))
  rw [length_map] at h5
  refine Nat.le_of_not_lt λq=>?_
  have q':(n:Int) < ((ns.length:Nat):Int):=by omega
  first
   | (rw [decide_eq_true q'] at h5;exact absurd h5 (by decide))
   | (simp at h5;omega)
 cases jT with
 | cons w1 w2 =>
  cases w2
  cases w1 with
  | list ho gf=>exact ⟨_,_,ns,rfl,rfl,ho,LN ns _ gf,aJ⟩
theorem Mi (l:OpenLaw) (args:List WData):l.row.toRowW.claim.post args (.bool true) args=true :=
 postW_of (r:=l.row.toRowW) (X:=(true == true))
  (show WShape.has [] (.bool true) .bool=true by first | rfl | decide | simp [WShape.has,WShape.arms,WShape.armsAll])
  (show (WTm.eq .res (.lit (.bool true))).value [] { args:=args,res:=some (.bool true),after:=args }=some (.bool (true == true)) from w_eq_bool (w_res rfl) w_lit) rfl
theorem Hr {l:OpenLaw}{n:Nat}{q:Program}{cj:List Str}{XP:(Str->Option Value)->Heap->Prop}{YP:World->Heap->Prop}{d:DefRec}
  (hn:l.most=some n) (gj:d.params.defaults=[])
  (call:∀ (w:World) (s₀ ax:Shared) (mg mb:Str->Option Value) (fa:Addr) (o:Obj) (pm cd bM:Value) (a:Addr) (vs:List Value) (ns:List Int),
   Ground q cj [] XP w s₀ mg mb ax.heap->YP w ax.heap →
   ax.heap.get? fa=some o->o.data=.func (docDef d.name d.params d.body d.scope pm cd bM)->ax.heap.CodeRec cd d.name->mg d.name=some (.ref fa) →
   ax.heap.get? a=some { cls:=.type "list", data:=.seq vs.toArray }->IntsAre vs ns->ns.length<=n->ax.gens=#[] →
   codeAny (model l.prog w) callerA (.call (.ref fa) ⟨[.ref a],[]⟩) (λr s'=>r=.ok (.ret (.bool true))/\OldK ax.heap s'.heap/\s'.os=ax.os/\AllBare s'.gens) ax) :
  WalkO q cj XP YP l.row.toRowW d [] (λf vs=>PySem.call f vs):=by
 intro w s₀ ax mg mb G sD fa o pm cd bM dV kV ho hd aX hD gm hg args fZ as ft rl lO jT lP
 obtain rfl:dV=.none:=Dflts.none hD gj
 obtain rfl:kV=.none:=Dflts.noKw hD
 obtain ⟨a,vs,ns,rfl,rfl,gr,eO,aJ⟩:=Lp hn ft jT
 refine enter_call (codeAny_mono (call w s₀ ax mg mb fa o pm cd bM a vs ns G sD ho (fd_plain hd) aX gm gr eO aJ hg) λr s' hq=>?_)
 obtain ⟨rfl,h2,h3,h4⟩:=hq
 exact ⟨.inl ⟨.bool true,.bool true,[],rfl,λ_=>rfl,.bool true,Mi l _,λ_=>⟨List.Pairwise.nil,λ_ hm=>(nomatch hm)⟩⟩,h2,h3,h4⟩
end Att
namespace L2
open PySem PySem.Spec PyProof.Rows
theorem DQ:∀ {vs:List Value}{ns:List Int},IntsAre vs ns->Vals (ns.map V.int) vs
 | _,_,.nil=>.nil
 | _,_,.cons n t h=>.cons ⟨t,rfl⟩ (DQ h)
def Only (H:Hp):Prop:=∀ b,H b=none\/∃ o xs,H b=some (.frz o (.lst xs))
noncomputable def defArgs (s:Stmt):Arguments:=match s with
 | .FunctionDef _ a _ _ _ _ _ _ _ _=>a
 | _=>{ posonlyargs:=[],args:=[],vararg:=none,kwonlyargs:=[],kw_defaults:=[],kwarg:=none,defaults:=[] }
noncomputable def defBody (s:Stmt):List Stmt:=match s with
 | .FunctionDef _ _ b _ _ _ _ _ _ _=>b
 | _=>[]
noncomputable def defScope (s:Stmt):Scope:=match s with
 | .FunctionDef _ _ _ _ _ _ sc _ _ _=>sc
 | _=>{ kind:=.function,names:=[],isGenerator:=false,isCoroutine:=false }
abbrev CX0:CXT:=λ_ _ _ _ _ _=>False
abbrev E0:XK:=λ_ _ _=>False
theorem pass0 {X:Cx}:Passes CX0 X E0:=λ_ _ _ _ _ _ _ h=>h.elim
structure Fun (K:PySem.W.Frag) (x qual:Str) (st:Stmt) (f:Addr) (fd:FuncData):Prop where
 ex:∃ (oc:Value) (od:Option Addr) (kV bM pm:Value) (an:Option Addr) (au ct:Value) (cR:Array (Option Value)),
  fd=fnOf x qual (defArgs st) (defBody st) (defScope st) .none kV bM pm an au ct/\K.lookup f=some ⟨oc,od,.func fd,cR⟩/\codeIn K au qual=true
 kp:keepIn K (.ref f)=true
section
variable {P:Program}{w:World}{K:PySem.W.Frag}{mg:Str->Option Value}{base:Heap}
theorem Fun.ok {x qual:Str}{st:Stmt}{f:Addr}{fd:FuncData}{N ps:List Str}{k:Nat}{sp:Sp} (F:Fun K x qual st f fd) (S:FnScope N ps (defScope st)) (len:∀ vs H Q E,sp vs H Q E->vs.length=ps.length)
  (cS:∀ (au:Value) (A:Around) (outer:List Env) (s:Shared) (H:Hp) (vs:List V) (Q:VK) (E:XK),Room k (A.deeper (envOfC qual (defScope st) s.heap.objs.size f au))->sp vs H Q E →
   ∃ t,PSs (cxOf CX0 P w K mg base N qual (defScope st) f au A outer s H E).nox (defBody st) t/\t { nx:=λ_ H'=>Q .non H',rt:=Q } (start N vs) H):FnOk P w K mg base CX0 (k+1) f fd ps sp:=by
 obtain ⟨oc,od,kV,bM,pm,an,au,ct,cR,rfl,lk,aX⟩:=F.ex
 refine CJ lk aX S len λA outer s H vs Q E hr db=>?_
 obtain ⟨t,h,q⟩:=cS au A outer s H vs Q E hr db
 exact ⟨t,h.nox,q⟩
theorem Fun.binds {x qual:Str}{st:Stmt}{f:Addr}{fd:FuncData}{ps:List Str} (F:Fun K x qual st f fd)
  (h:∀ (kV bM pm:Value) (an:Option Addr) (au ct:Value) (us:List Value),us.length=ps.length->bindArgs (fnOf x qual (defArgs st) (defBody st) (defScope st) .none kV bM pm an au ct) ⟨us,[]⟩=pure (ps.zip us)):Binds K fd ps []:=by
 obtain ⟨oc,od,kV,bM,pm,an,au,ct,cR,rfl,lk,aX⟩:=F.ex
 exact .all (h kV bM pm an au ct)
theorem K0 {x qual:Str}{st:Stmt}{f:Addr}{oc:Value}{od an:Option Addr}{cR:Array (Option Value)}{kV bM pm au ct:Value} (l:K.lookup f=some ⟨oc,od,.func (fnOf x qual (defArgs st) (defBody st) (defScope st) .none kV bM pm an au ct),cR⟩)
  (c:codeIn K au qual=true) (k:keepIn K (.ref f)=true):Fun K x qual st f (fnOf x qual (defArgs st) (defBody st) (defScope st) .none kV bM pm an au ct):=⟨⟨oc,od,kV,bM,pm,an,au,ct,cR,rfl,l,c⟩,k⟩
end
section
variable {X:Cx}
theorem pv (i:Nat){x:Str}{pos:Pos} (hN:X.N[i]?=some x:=by rfl) (hv:visB X.env.scope x=true:=by rfl) (hd:(x == ("__debug__":Str))=false:=by decide)
  (aX:(x == ("__classdict__":Str))=false:=by decide):PE X (.Name x pos) (tVar i):=Jz hN (visI hv) hd aX
end
theorem iteF {A B:Prop} (h:B):if false=true then A else B:=by
 rw [if_neg Bool.false_ne_true]
 exact h
theorem iteT {A B:Prop} (h:A):if true=true then A else B:=by
 rw [if_pos rfl]
 exact h
def Same (H H':Hp):Prop:=∀ b o,H b=some o->H' b=some o
theorem Same.refl (H:Hp):Same H H:=λ_ _ h=>h
theorem Same.trans {H H1 H2:Hp} (a:Same H H1) (b:Same H1 H2):Same H H2:=λc o h=>b c o (a c o h)
theorem Same.free {H H':Hp} (e:Same H H'){l:Addr} (h:H' l=Option.none):H l=Option.none:=by
 cases q:H l with
 | none=>rfl
 | some o =>
  rw [e l o q] at h
  cases h
structure M1 (X:Cx) (o:Expr) (m:Str) (bc:Pos) (e:Expr) (aF:Pos):Prop where
 base:attributeBase o m X.env (eval o X.env)=eval o X.env
 few:((backTo aF (starEach [e] X.env)).all (λx=>!x.1)&&(backToKw aF (keywordEach [] X.env)).all (λx=>x.1.isSome)
  &&decide (([e]:List Expr).length+([]:List Keyword).length+(if ([]:List Keyword).isEmpty then 0 else 1) < 30))=true
 line:(bc.endLine == aF.line)=true
 trees:backTo aF (starEach [e] X.env)=[(false,eval e X.env)]
structure M2 (X:Cx) (o:Expr) (m:Str) (bc:Pos) (e f:Expr) (aF:Pos):Prop where
 base:attributeBase o m X.env (eval o X.env)=eval o X.env
 few:((backTo aF (starEach [e,f] X.env)).all (λx=>!x.1)&&(backToKw aF (keywordEach [] X.env)).all (λx=>x.1.isSome)
  &&decide (([e,f]:List Expr).length+([]:List Keyword).length+(if ([]:List Keyword).isEmpty then 0 else 1) < 30))=true
 line:(bc.endLine == aF.line)=true
 trees:backTo aF (starEach [e,f] X.env)=[(false,eval e X.env),(false,eval f X.env)]
end L2
set_option maxHeartbeats 4000000
namespace DL
open PySem PySem.Spec PyProof.Rows L2
inductive D where
 | non | bl (b:Bool) | int (i:Int) | str (x:Str) | tup (xs:List D) | lst (xs:List D)
def RdK (K:PySem.W.Frag) (I:Hp) (a:Addr) (xs:List V):Prop:=Rd I a (.lst xs)\/∃ (ac:List Value) (n:Nat),K.lookup a=some { cls:=.type "list", data:=.seq ac.toArray n }/\Vals xs ac/\ac.length<=sizeLine
theorem RdK.of {K:PySem.W.Frag}{I:Hp}{a:Addr}{xs:List V} (h:I a=some (.lst xs)):RdK K I a xs:=.inl (.inl h)
theorem RdK.sq {K:PySem.W.Frag}{I:Hp}{a:Addr}{xs:List V} (h:RdK K I a xs):SqL K I a xs:=by
 rcases h with h | ⟨ac,n,h1,h2,h3⟩
 ·exact .inl h
 ·exact .inr ⟨_,ac.toArray,n,h1,rfl,rfl,rfl,by simpa using h3,by simpa using h2⟩
mutual
def Is (K:PySem.W.Frag) (I:Hp):D->V->Prop
 | .non,v=>v=.non
 | .bl b,v=>v=.bl b
 | .int i,v=>v=.int i
 | .str x,v=>v=.str x
 | .tup ds,v=>∃ a xs,v=.ref a/\SqT K I a xs/\IsA K I ds xs
 | .lst ds,v=>∃ a xs,v=.ref a/\RdK K I a xs/\IsA K I ds xs
def IsA (K:PySem.W.Frag) (I:Hp):List D->List V->Prop
 | [],xs=>xs=[]
 | d::ds,xs=>∃ x r,xs=x::r/\Is K I d x/\IsA K I ds r
end
section
variable {K:PySem.W.Frag}{I I' H:Hp}
theorem Same.rd {a:Addr}{o:HO} (e:Same I I') (h:Rd I a o):Rd I' a o:=by
 rcases h with h | ⟨u,h⟩
 ·exact .inl (e _ _ h)
 ·exact .inr ⟨u,e _ _ h⟩
theorem Same.rdK {a:Addr}{xs:List V} (e:Same I I') (h:RdK K I a xs):RdK K I' a xs:=by
 rcases h with h | h
 ·exact .inl (Same.rd e h)
 ·exact .inr h
theorem Same.sqT {a:Addr}{xs:List V} (e:Same I I') (h:SqT K I a xs):SqT K I' a xs:=by
 rcases h with h | h
 ·exact .inl (Same.rd e h)
 ·exact .inr h
mutual
theorem Is.mono (e:Same I I'):∀ {d:D}{v:V},Is K I d v->Is K I' d v
 | .non,_,h=>by rw [Is] at h ⊢;exact h
 | .bl _,_,h=>by rw [Is] at h ⊢;exact h
 | .int _,_,h=>by rw [Is] at h ⊢;exact h
 | .str _,_,h=>by rw [Is] at h ⊢;exact h
 | .tup ds,v,h=>by
  rw [Is] at h ⊢
  obtain ⟨a,xs,e1,e2,e3⟩:=h
  exact ⟨a,xs,e1,Same.sqT e e2,IsA.mono e e3⟩
 | .lst ds,v,h=>by
  rw [Is] at h ⊢
  obtain ⟨a,xs,e1,e2,e3⟩:=h
  exact ⟨a,xs,e1,Same.rdK e e2,IsA.mono e e3⟩
theorem IsA.mono (e:Same I I'):∀ {ds:List D}{xs:List V},IsA K I ds xs->IsA K I' ds xs
 | [],_,h=>by rw [IsA] at h ⊢;exact h
 | d::ds,xs,h=>by
  rw [IsA] at h ⊢
  obtain ⟨x,r,e1,e2,e3⟩:=h
  exact ⟨x,r,e1,Is.mono e e2,IsA.mono e e3⟩
end
theorem IsA.nil:IsA K I [] []:=by rw [IsA]
theorem IsA.cons {d:D}{ds:List D}{x:V}{xs:List V} (h:Is K I d x) (t:IsA K I ds xs):IsA K I (d::ds) (x::xs):=by
 rw [IsA];exact ⟨x,xs,rfl,h,t⟩
theorem IsA.nil_inv {xs:List V} (h:IsA K I [] xs):xs=[]:=by rw [IsA] at h;exact h
theorem IsA.cons_inv {d:D}{ds:List D}{xs:List V} (h:IsA K I (d::ds) xs):∃ x r,xs=x::r/\Is K I d x/\IsA K I ds r:=by rw [IsA] at h;exact h
theorem IsA.length:∀ {ds:List D}{xs:List V},IsA K I ds xs->ds.length=xs.length
 | [],xs,h=>by rw [h.nil_inv]<;>rfl
 | d::ds,xs,h=>by
  obtain ⟨x,r,rfl,_,t⟩:=h.cons_inv
  simp [IsA.length t]
theorem IsA.get:∀ {ds:List D}{xs:List V}{i:Nat}{d:D},IsA K I ds xs->ds[i]?=some d->∃ x,xs[i]?=some x/\Is K I d x
 | [],xs,i,d,h,e=>by simp at e
 | c::ds,xs,0,d,h,e=>by
  obtain ⟨x,r,rfl,hx,t⟩:=h.cons_inv
  simp at e;subst e
  exact ⟨x,rfl,hx⟩
 | c::ds,xs,i+1,d,h,e=>by
  obtain ⟨x,r,rfl,hx,t⟩:=h.cons_inv
  obtain ⟨y,e1,e2⟩:=IsA.get (i:=i) t (by simpa using e)
  exact ⟨y,by simpa using e1,e2⟩
theorem IsA.append:∀ {ds es:List D}{xs ys:List V},IsA K I ds xs->IsA K I es ys->IsA K I (ds++es) (xs++ys)
 | [],es,xs,ys,h,t=>by rw [h.nil_inv];exact t
 | d::ds,es,xs,ys,h,t=>by
  obtain ⟨x,r,rfl,hx,h'⟩:=h.cons_inv
  exact IsA.cons hx (IsA.append h' t)
theorem IsA.take:∀ {ds:List D}{xs:List V} (n:Nat),IsA K I ds xs->IsA K I (ds.take n) (xs.take n)
 | ds,xs,0,h=>by rw [List.take_zero,List.take_zero];exact IsA.nil
 | [],xs,n+1,h=>by rw [h.nil_inv];exact IsA.nil
 | d::ds,xs,n+1,h=>by
  obtain ⟨x,r,rfl,hx,h'⟩:=h.cons_inv
  rw [List.take_succ_cons,List.take_succ_cons]
  exact IsA.cons hx (IsA.take n h')
theorem IsA.drop:∀ {ds:List D}{xs:List V} (n:Nat),IsA K I ds xs->IsA K I (ds.drop n) (xs.drop n)
 | ds,xs,0,h=>by rw [List.drop_zero,List.drop_zero];exact h
 | [],xs,n+1,h=>by rw [h.nil_inv];exact IsA.nil
 | d::ds,xs,n+1,h=>by
  obtain ⟨x,r,rfl,hx,h'⟩:=h.cons_inv
  rw [drop_succ_cons,drop_succ_cons]
  exact IsA.drop n h'
theorem IsA.set {d:D}{x:V} (q:Is K I d x):∀ {ds:List D}{xs:List V} (n:Nat),IsA K I ds xs->IsA K I (ds.set n d) (xs.set n x)
 | [],xs,n,h=>by rw [h.nil_inv];exact IsA.nil
 | c::ds,xs,0,h=>by
  obtain ⟨y,r,rfl,hx,h'⟩:=h.cons_inv
  exact IsA.cons q h'
 | c::ds,xs,n+1,h=>by
  obtain ⟨y,r,rfl,hx,h'⟩:=h.cons_inv
  exact IsA.cons hx (IsA.set q n h')
theorem IsA.reverse:∀ {ds:List D}{xs:List V},IsA K I ds xs->IsA K I ds.reverse xs.reverse
 | [],xs,h=>by rw [h.nil_inv];exact IsA.nil
 | d::ds,xs,h=>by
  obtain ⟨x,r,rfl,hx,h'⟩:=h.cons_inv
  rw [List.reverse_cons,List.reverse_cons]
  exact IsA.append (IsA.reverse h') (IsA.cons hx IsA.nil)
theorem IsA.one {d:D}{xs:List V} (h:IsA K I [d] xs):∃ x,xs=[x]/\Is K I d x:=by
 obtain ⟨x,r,rfl,hx,t⟩:=h.cons_inv
 rw [t.nil_inv]
 exact ⟨x,rfl,hx⟩
theorem IsA.two {d e:D}{xs:List V} (h:IsA K I [d,e] xs):∃ x y,xs=[x,y]/\Is K I d x/\Is K I e y:=by
 obtain ⟨x,r,rfl,hx,t⟩:=h.cons_inv
 obtain ⟨y,rfl,hy⟩:=t.one
 exact ⟨x,y,rfl,hx,hy⟩
theorem sV {i:Int}{v:V} (h:Is K I (.int i) v):v=.int i:=by rw [Is] at h;exact h
theorem tV {i:Bool}{v:V} (h:Is K I (.bl i) v):v=.bl i:=by rw [Is] at h;exact h
theorem uo {i:Str}{v:V} (h:Is K I (.str i) v):v=.str i:=by rw [Is] at h;exact h
theorem uf {v:V} (h:Is K I .non v):v=.non:=by rw [Is] at h;exact h
theorem sZ {ds:List D}{v:V} (h:Is K I (.tup ds) v):∃ a xs,v=.ref a/\SqT K I a xs/\IsA K I ds xs:=by rw [Is] at h;exact h
theorem tm {ds:List D}{v:V} (h:Is K I (.lst ds) v):∃ a xs,v=.ref a/\RdK K I a xs/\IsA K I ds xs:=by rw [Is] at h;exact h
theorem Is.int (i:Int):Is K I (.int i) (.int i):=by rw [Is]
theorem Is.bl (i:Bool):Is K I (.bl i) (.bl i):=by rw [Is]
theorem Is.str (i:Str):Is K I (.str i) (.str i):=by rw [Is]
theorem Is.non:Is K I .non .non:=by rw [Is]
theorem Is.tup {ds:List D}{a:Addr}{xs:List V} (h:SqT K I a xs) (t:IsA K I ds xs):Is K I (.tup ds) (.ref a):=by rw [Is];exact ⟨a,xs,rfl,h,t⟩
theorem Is.lst {ds:List D}{a:Addr}{xs:List V} (h:RdK K I a xs) (t:IsA K I ds xs):Is K I (.lst ds) (.ref a):=by rw [Is];exact ⟨a,xs,rfl,h,t⟩
end
inductive R where
 | val (d:D) | own (ds:List D) | bor (ds:List D) | fro (ds:List D) | dic (aO:List (Int×D))
noncomputable def R.mut:R->Bool
 | .val _=>false
 | .own _=>true
 | .bor _=>true
 | .fro _=>false
 | .dic _=>false
noncomputable def R.ptr:R->Bool
 | .val _=>false
 | .own _=>true
 | .bor _=>true
 | .fro _=>false
 | .dic _=>true
abbrev Gm:=List (Option R)
def Mt (K:PySem.W.Frag) (G I H:Hp) (ds:List D) (v:V):Prop:=∃ p xs,v=.ref p/\H p=some (.lst xs)/\I p=none/\G p=none/\IsA K I ds xs
def IsK (K:PySem.W.Frag) (I:Hp) (aO:List (Int×D)) (xs:List (Key×V)):Prop:=xs.map (·.1)=aO.map (λq=>inl q.1)/\IsA K I (aO.map (·.2)) (xs.map (·.2))
theorem IsK.mono {K:PySem.W.Frag}{I I':Hp}{aO:List (Int×D)}{xs:List (Key×V)} (e:Same I I') (h:IsK K I aO xs):IsK K I' aO xs:=⟨h.1,h.2.mono e⟩
def MtK (K:PySem.W.Frag) (G I H:Hp) (aO:List (Int×D)) (v:V):Prop:=∃ p xs,v=.ref p/\H p=some (.dK xs)/\I p=none/\G p=none/\IsK K I aO xs
def SlotOk (K:PySem.W.Frag) (G I H:Hp):R->V->Prop
 | .val d,v=>Is K I d v
 | .own ds,v=>Mt K G I H ds v
 | .bor ds,v=>Mt K G I H ds v
 | .fro ds,v=>∃ p xs,v=.ref p/\I p=some (.lst xs)/\G p=none/\IsA K I ds xs
 | .dic aO,v=>MtK K G I H aO v
theorem SlotOk.mt {K:PySem.W.Frag}{G I H:Hp}{r:R}{v:V} (h:SlotOk K G I H r v) (m:r.ptr=true):∃ p xs,v=.ref p/\H p=some xs/\I p=none/\G p=none:=by
 cases r with
 | val d=>cases m
 | own ds=>obtain ⟨p,xs,e1,e2,e3,e4,_⟩:=h;exact ⟨p,_,e1,e2,e3,e4⟩
 | bor ds=>obtain ⟨p,xs,e1,e2,e3,e4,_⟩:=h;exact ⟨p,_,e1,e2,e3,e4⟩
 | fro ds=>cases m
 | dic ds=>obtain ⟨p,xs,e1,e2,e3,e4,_⟩:=h;exact ⟨p,_,e1,e2,e3,e4⟩
structure Rep (K:PySem.W.Frag) (B:Nat->Option (Option V)) (G I H:Hp) (U:L2.St) (Y:Gm):Prop where
 iH:Same I H
 gH:Same G H
 len:U.length=Y.length
 slot:∀ (i:Nat) (r:R),Y[i]?=some (some r)->∃ v,U[i]?=some (some v)/\SlotOk K G I H r v
 dist:∀ (i j:Nat) (r r':R) (v:V),Y[i]?=some (some r)->Y[j]?=some (some r')->r.ptr=true->r'.ptr=true->U[i]?=some (some v)->U[j]?=some (some v)->i=j
 bor:∀ (i:Nat) (ds:List D),Y[i]?=some (some (.bor ds))->U[i]?=B i
structure Grow (G I I':Hp):Prop where
 up:Same I I'
 new:∀ b o,I' b=some o->I b=some o\/G b=none
theorem Grow.refl (G I:Hp):Grow G I I:=⟨Same.refl _,λ_ _ h=>.inl h⟩
theorem Grow.trans {G I I1 I2:Hp} (a:Grow G I I1) (b:Grow G I1 I2):Grow G I I2:=⟨a.up.trans b.up,λc o h=>by
 rcases b.new c o h with h1 | h1
 ·exact a.new c o h1
 ·exact .inr h1⟩
section
variable {K:PySem.W.Frag}{B:Nat->Option (Option V)}{G I I' H H':Hp}{U:L2.St}{Y:Gm}
theorem Rep.ext (r:Rep K B G I H U Y) (hI:Same I I') (hH:Same H H') (iH:Same I' H') (new:∀ b o,I' b=some o->I b=some o\/H b=none):Rep K B G I' H' U Y where
 iH:=iH
 gH:=r.gH.trans hH
 len:=r.len
 slot:=λi q e=>by
  obtain ⟨v,e1,e2⟩:=r.slot i q e
  refine ⟨v,e1,?_⟩
  have mt:∀ ds,Mt K G I H ds v->Mt K G I' H' ds v:=λds h=>by
   obtain ⟨p,xs,h1,h2,h3,h4,h5⟩:=h
   refine ⟨p,xs,h1,hH _ _ h2,?_,h4,h5.mono hI⟩
   cases z:I' p with
   | none=>rfl
   | some o =>
    rcases new p o z with z1 | z1
    ·rw [h3] at z1;cases z1
    ·rw [h2] at z1;cases z1
  cases q with
  | val d=>exact Is.mono hI e2
  | dic ds =>
   obtain ⟨p,xs,h1,h2,h3,h4,h5⟩:=e2
   refine ⟨p,xs,h1,hH _ _ h2,?_,h4,h5.mono hI⟩
   cases z:I' p with
   | none=>rfl
   | some o =>
    rcases new p o z with z1 | z1
    ·rw [h3] at z1;cases z1
    ·rw [h2] at z1;cases z1
  | own ds=>exact mt ds e2
  | bor ds=>exact mt ds e2
  | fro ds=>obtain ⟨p,xs,f1,f2,f3,f4⟩:=e2;exact ⟨p,xs,f1,hI _ _ f2,f3,f4.mono hI⟩
 dist:=r.dist
 bor:=r.bor
theorem tY {H:Hp}{p:Addr} (h:H p=none) (o:HO):Same H (upd H p o):=λb u q=>by rw [sO (ut q h)];exact q
theorem CF {I H:Hp}{p:Addr} (h:Same I H) (o:HO):Same (upd I p o) (upd H p o):=λb u q=>by
 by_cases e:b=p
 ·subst e;rw [tz] at q ⊢;exact q
 ·rw [sO e] at q ⊢;exact h b u q
theorem Rep.iFree (r:Rep K B G I H U Y){p:Addr} (h:H p=none):I p=none:=r.iH.free h
theorem Rep.gFree (r:Rep K B G I H U Y){p:Addr} (h:H p=none):G p=none:=r.gH.free h
theorem Rep.alloc (r:Rep K B G I H U Y){p:Addr} (h:H p=none) (o:HO):Rep K B G (upd I p o) (upd H p o) U Y :=
 r.ext (tY (r.iFree h) o) (tY h o) (CF r.iH o) λb u q=>by
  by_cases e:b=p
  ·subst e;exact .inr h
  ·rw [sO e] at q;exact .inl q
theorem Rep.growAlloc (r:Rep K B G I H U Y){p:Addr} (h:H p=none) (o:HO):Grow G I (upd I p o):=⟨tY (r.iFree h) o,λb u q=>by
 by_cases e:b=p
 ·subst e;exact .inr (r.gFree h)
 ·rw [sO e] at q;exact .inl q⟩
theorem Rep.fresh (r:Rep K B G I H U Y){p:Addr} (h:H p=none) (o:HO):Rep K B G I (upd H p o) U Y :=
 r.ext (Same.refl _) (tY h o) (r.iH.trans (tY h o)) λb u q=>.inl q
def Apart (U:L2.St) (Y:Gm) (p:Addr):Prop:=∀ (j:Nat) (r:R),Y[j]?=some (some r)->r.ptr=true->U[j]?≠some (some (.ref p))
theorem Rep.apart (r:Rep K B G I H U Y){p:Addr} (h:H p=none):Apart U Y p:=λj q e m z=>by
 obtain ⟨v,e1,e2⟩:=r.slot j q e
 obtain ⟨p',xs,h1,h2,_,_⟩:=e2.mt m
 rw [e1] at z
 subst h1
 cases z
 rw [h] at h2;cases h2
theorem Rep.freeze (r:Rep K B G I H U Y){p:Addr}{xs:List V} (h:H p=some (.lst xs)) (hi:I p=none) (a:Apart U Y p):Rep K B G (upd I p (.lst xs)) H U Y where
 iH:=λb u q=>by
  by_cases e:b=p
  ·subst e;rw [tz] at q;cases q;exact h
  ·rw [sO e] at q;exact r.iH b u q
 gH:=r.gH
 len:=r.len
 slot:=λi q e=>by
  obtain ⟨v,e1,e2⟩:=r.slot i q e
  refine ⟨v,e1,?_⟩
  have up:=tY hi (.lst xs)
  have mt:q.ptr=true->∀ ds,Mt K G I H ds v->Mt K G (upd I p (.lst xs)) H ds v:=λm ds h=>by
   obtain ⟨p',bN,h1,h2,h3,h4,h5⟩:=h
   refine ⟨p',bN,h1,h2,?_,h4,h5.mono up⟩
   have ne:p'≠p:=λz=>a i q e m (by rw [e1,h1,z])
   rw [sO ne];exact h3
  cases q with
  | val d=>exact Is.mono up e2
  | dic ds =>
   obtain ⟨p',bN,h1,h2,h3,h4,h5⟩:=e2
   refine ⟨p',bN,h1,h2,?_,h4,h5.mono up⟩
   have ne:p'≠p:=λz=>a i _ e rfl (by rw [e1,h1,z])
   rw [sO ne];exact h3
  | own ds=>exact mt rfl ds e2
  | bor ds=>exact mt rfl ds e2
  | fro ds=>obtain ⟨p,xs,f1,f2,f3,f4⟩:=e2;exact ⟨p,xs,f1,up _ _ f2,f3,f4.mono up⟩
 dist:=r.dist
 bor:=r.bor
theorem growFreeze {G I:Hp}{p:Addr}{xs:List V} (hi:I p=none) (hg:G p=none):Grow G I (upd I p (.lst xs)):=⟨tY hi _,λb u q=>by
 by_cases e:b=p
 ·subst e;exact .inr hg
 ·rw [sO e] at q;exact .inl q⟩
theorem tP {α:Type}{l:List α}{i j:Nat}{a b:α} (h:(l.set i a)[j]?=some b):(j=i/\b=a/\i < l.length)\/(j≠i/\l[j]?=some b):=by
 by_cases e:j=i
 ·subst e
  by_cases hl:j < l.length
  ·rw [List.getElem?_set_self hl] at h;cases h;exact .inl ⟨rfl,rfl,hl⟩
  ·rw [List.getElem?_eq_none (by rw [length_set];omega)] at h;cases h
 ·rw [getElem?_set_ne (Ne.symm e)] at h;exact .inr ⟨e,h⟩
theorem Rep.forget (r:Rep K B G I H U Y) (i:Nat):Rep K B G I H U (Y.set i none) where
 iH:=r.iH
 gH:=r.gH
 len:=by rw [length_set];exact r.len
 slot:=λj q e=>by
  rcases tP e with ⟨_,z,_⟩ | ⟨_,z⟩
  ·cases z
  ·exact r.slot j q z
 dist:=λj k q q' v e e'=>by
  rcases tP e with ⟨_,z,_⟩ | ⟨_,z⟩
  ·cases z
  rcases tP e' with ⟨_,z',_⟩ | ⟨_,z'⟩
  ·cases z'
  exact r.dist j k q q' v z z'
 bor:=λj ds e=>by
  rcases tP e with ⟨_,z,_⟩ | ⟨_,z⟩
  ·cases z
  ·exact r.bor j ds z
theorem Rep.learn (r:Rep K B G I H U Y){i:Nat}{q:R}{v:V} (hv:U[i]?=some (some v)) (ok:SlotOk K G I H q v) (ha:q.ptr=true->∀ p,v=.ref p->∀ (j:Nat) (r:R),j≠i->Y[j]?=some (some r)->r.ptr=true->U[j]?≠some (some (.ref p)))
  (hb:∀ ds,q=.bor ds->U[i]?=B i):Rep K B G I H U (Y.set i (some q)) where
 iH:=r.iH
 gH:=r.gH
 len:=by rw [length_set];exact r.len
 slot:=λj q' e=>by
  rcases tP e with ⟨rfl,z,_⟩ | ⟨_,z⟩
  ·cases z;exact ⟨v,hv,ok⟩
  ·exact r.slot j q' z
 dist:=λj k q1 q2 w e e' m1 m2 s1 s2=>by
  rcases tP e with ⟨rfl,z,_⟩ | ⟨n1,z⟩
  ·cases z
   rcases tP e' with ⟨rfl,z',_⟩ | ⟨n2,z'⟩
   ·rfl
   ·obtain ⟨p,xs,e1,_⟩:=ok.mt m1
    rw [hv] at s1;cases s1
    exact absurd (e1▸s2) (ha m1 p e1 k q2 n2 z' m2)
  ·rcases tP e' with ⟨rfl,z',_⟩ | ⟨n2,z'⟩
   ·cases z'
    obtain ⟨p,xs,e1,_⟩:=ok.mt m2
    rw [hv] at s2;cases s2
    exact absurd (e1▸s1) (ha m2 p e1 j q1 n1 z m1)
   ·exact r.dist j k q1 q2 w z z' m1 m2 s1 s2
 bor:=λj ds e=>by
  rcases tP e with ⟨rfl,z,_⟩ | ⟨_,z⟩
  ·cases z;exact hb ds rfl
  ·exact r.bor j ds z
theorem Rep.store (r:Rep K B G I H U Y){i:Nat}{q:R}{v:V} (hi:i < U.length) (ok:SlotOk K G I H q v) (ha:q.ptr=true->∀ p,v=.ref p->Apart U Y p) (hb:∀ ds,q≠.bor ds):Rep K B G I H (U.set i (some v)) (Y.set i (some q)):=by
 have r1:Rep K B G I H (U.set i (some v)) (Y.set i none):={
  iH:=r.iH,gH:=r.gH,len:=by rw [length_set,length_set];exact r.len
  slot:=λj q' e=>by
   rcases tP e with ⟨_,z,_⟩ | ⟨n,z⟩
   ·cases z
   ·rw [getElem?_set_ne (Ne.symm n)];exact r.slot j q' z
  dist:=λj k q1 q2 w e e' m1 m2 s1 s2=>by
   rcases tP e with ⟨_,z,_⟩ | ⟨n1,z⟩
   ·cases z
   rcases tP e' with ⟨_,z',_⟩ | ⟨n2,z'⟩
   ·cases z'
   rw [getElem?_set_ne (Ne.symm n1)] at s1
   rw [getElem?_set_ne (Ne.symm n2)] at s2
   exact r.dist j k q1 q2 w z z' m1 m2 s1 s2
  bor:=λj ds e=>by
   rcases tP e with ⟨_,z,_⟩ | ⟨n,z⟩
   ·cases z
   ·rw [getElem?_set_ne (Ne.symm n)];exact r.bor j ds z }
 have r2:=r1.learn (i:=i) (q:=q) (v:=v) (by rw [List.getElem?_set_self hi]) ok (λm p e j q' n z m' s=>by
  rcases tP z with ⟨_,z',_⟩ | ⟨_,z'⟩
  ·cases z'
  ·rw [getElem?_set_ne (Ne.symm n)] at s
   exact ha m p e j q' z' m' s) (λds e=>absurd e (hb ds))
 rw [set_set] at r2
 exact r2
theorem Rep.write (r:Rep K B G I H U Y){i:Nat}{q q':R}{p:Addr}{xs ys:List V}{ds:List D} (hq:Y[i]?=some (some q)) (hm:q.ptr=true) (hs:U[i]?=some (some (.ref p))) (h:H p=some (.lst xs)) (gw:q'=.own ds\/(q'=.bor ds/\∃ es,q=.bor es)) (hd:IsA K I ds ys) :
  Rep K B G I (upd H p (.lst ys)) U (Y.set i (some q')):=by
 obtain ⟨v,e1,e2⟩:=r.slot i q hq
 obtain ⟨p',bN,h1,h2,h3,h4⟩:=e2.mt hm
 have hp:p'=p:=by rw [hs] at e1;subst h1;cases e1;rfl
 subst hp
 have eP:∀ (j:Nat) (r':R),j≠i->Y[j]?=some (some r')->r'.ptr=true->U[j]?≠some (some (.ref p')):=λj r' n z m s=>n (r.dist j i r' q _ z hq m hm s hs)
 have sI:Same I (upd H p' (.lst ys)):=λb u z=>by
  have ne:b≠p':=λe=>by subst e;rw [h3] at z;cases z
  rw [sO ne];exact r.iH b u z
 have sG:Same G (upd H p' (.lst ys)):=λb u z=>by
  have ne:b≠p':=λe=>by subst e;rw [h4] at z;cases z
  rw [sO ne];exact r.gH b u z
 have r1:Rep K B G I (upd H p' (.lst ys)) U (Y.set i none):={
  iH:=sI,gH:=sG,len:=by rw [length_set];exact r.len
  slot:=λj q1 e=>by
   rcases tP e with ⟨_,z,_⟩ | ⟨n,z⟩
   ·cases z
   obtain ⟨w,e3,e4⟩:=r.slot j q1 z
   refine ⟨w,e3,?_⟩
   have mt:q1.ptr=true->∀ ds,Mt K G I H ds w->Mt K G I (upd H p' (.lst ys)) ds w:=λm ds hh=>by
    obtain ⟨p2,jU,g1,g2,g3,g4,g5⟩:=hh
    refine ⟨p2,jU,g1,?_,g3,g4,g5⟩
    have ne:p2≠p':=λz2=>eP j q1 n z m (by rw [e3,g1,z2])
    rw [sO ne];exact g2
   cases q1 with
   | val d=>exact e4
   | dic ds =>
    obtain ⟨p2,jU,g1,g2,g3,g4,g5⟩:=e4
    refine ⟨p2,jU,g1,?_,g3,g4,g5⟩
    have ne:p2≠p':=λz2=>eP j _ n z rfl (by rw [e3,g1,z2])
    rw [sO ne];exact g2
   | own ds=>exact mt rfl ds e4
   | bor ds=>exact mt rfl ds e4
   | fro ds=>exact e4
  dist:=(r.forget i).dist
  bor:=(r.forget i).bor }
 have lQ:Mt K G I (upd H p' (.lst ys)) ds (.ref p'):=⟨p',ys,rfl,tz,h3,h4,hd⟩
 have r2:=r1.learn (i:=i) (q:=q') (v:=.ref p') hs (by rcases gw with rfl | ⟨rfl,_⟩<;>exact lQ) (λm p2 e j r' n z m' s=>by
  cases e
  rcases tP z with ⟨_,z',_⟩ | ⟨_,z'⟩
  ·cases z'
  ·exact eP j r' n z' m' s) (λes e=>by
  rcases gw with rfl | ⟨rfl,es',rfl⟩
  ·cases e
  ·exact r.bor i es' hq)
 rw [set_set] at r2
 exact r2
end
end DL
namespace DL
open PySem PySem.Spec PyProof.Rows L2
abbrev M (α:Type):=Gm->Option (α×Gm)
def ret {α:Type} (a:α):M α:=λY=>some (a,Y)
noncomputable def bnd {α Z:Type} (m:M α) (f:α->M Z):M Z:=λY=>match m Y with
 | some (a,ab)=>f a ab
 | none=>none
noncomputable def lft {α:Type} (o:Option α):M α:=λY=>match o with
 | some a=>some (a,Y)
 | none=>none
theorem sN {α Z:Type}{m:M α}{f:α->M Z}{Y:Gm}{b:Z}{af:Gm} (h:bnd m f Y=some (b,af)):∃ a ab,m Y=some (a,ab)/\f a ab=some (b,af):=by
 unfold bnd at h
 cases e:m Y with
 | none=>rw [e] at h;cases h
 | some q=>obtain ⟨a,ab⟩:=q;rw [e] at h;exact ⟨a,ab,rfl,h⟩
theorem tx {α:Type}{o:Option α}{Y af:Gm}{a:α} (h:lft o Y=some (a,af)):o=some a/\af=Y:=by
 unfold lft at h
 cases o with
 | none=>cases h
 | some b=>cases h;exact ⟨rfl,rfl⟩
section
variable (K:PySem.W.Frag) (B:Nat->Option (Option V))
def KD (G I:Hp) (U:L2.St) (af:Gm) (d:D) (Q:VK):Prop:=∀ v H' I',Rep K B G I' H' U af->Grow G I I'->Is K I' d v->Q v H'
def KO (G I:Hp) (U:L2.St) (af:Gm) (ds:List D) (Q:VK):Prop:=∀ p xs H' I',Rep K B G I' H' U af->Grow G I I'->H' p=some (.lst xs)->I' p=none->G p=none->Apart U af p->IsA K I' ds xs->Q (.ref p) H'
def KT (G I:Hp) (U:L2.St) (af:Gm) (b:Bool) (Q:Bool->Hp->Prop):Prop:=∀ H' I',Rep K B G I' H' U af->Grow G I I'->Q b H'
def KA (G I:Hp) (U:L2.St) (af:Gm) (ds:List D) (Q:List V->Hp->Prop):Prop:=∀ vs H' I',Rep K B G I' H' U af->Grow G I I'->IsA K I' ds vs->Q vs H'
noncomputable def tD (g:M D):TE:=λU H Q=>∃ G I Y d af,Rep K B G I H U Y/\g Y=some (d,af)/\KD K B G I U af d Q
noncomputable def tO (g:M (List D)):TE:=λU H Q=>∃ G I Y ds af,Rep K B G I H U Y/\g Y=some (ds,af)/\KO K B G I U af ds Q
noncomputable def tTD (g:M Bool):TT:=λU H Q=>∃ G I Y b af,Rep K B G I H U Y/\g Y=some (b,af)/\KT K B G I U af b Q
noncomputable def tAD (g:M (List D)):TA:=λU H Q=>∃ G I Y ds af,Rep K B G I H U Y/\g Y=some (ds,af)/\KA K B G I U af ds Q
end
abbrev BB:=Nat->Option (Option V)
def ED (X:Cx) (B:BB) (e:Expr) (g:M D):Prop:=PE X e (tD X.K B g)
def EO (X:Cx) (B:BB) (e:Expr) (g:M (List D)):Prop:=PE X e (tO X.K B g)
def TD (X:Cx) (B:BB) (e:Expr) (g:M Bool):Prop:=PT X e (tTD X.K B g)
def TW (X:Cx) (B:BB) (e:Expr) (g:M Bool):Prop:=PW X e (tTD X.K B g)
def AD (X:Cx) (B:BB) (es:List Expr) (g:M (List D)):Prop:=PA X es (tAD X.K B g)
section
variable {X:Cx}{e:Expr}
theorem PE.imp {t t':TE} (h:PE X e t) (f:∀ U H Q,t' U H Q->t U H Q):PE X e t':=λaa s U H Q I q=>h aa s U H Q I (f U H Q q)
theorem PT.imp {t t':TT} (h:PT X e t) (f:∀ U H Q,t' U H Q->t U H Q):PT X e t':=λaa s U H Q I q=>h aa s U H Q I (f U H Q q)
theorem PW.imp {t t':TT} (h:PW X e t) (f:∀ U H Q,t' U H Q->t U H Q):PW X e t':=λwh aa s U H Q I q=>h wh aa s U H Q I (f U H Q q)
theorem PA.imp {es:List Expr}{t t':TA} (h:PA X es t) (f:∀ U H Q,t' U H Q->t U H Q):PA X es t':=λpos aa s U H Q I q=>h pos aa s U H Q I (f U H Q q)
end
section
variable {K:PySem.W.Frag}{B:BB}{G I I1 I2 H H1:Hp}{U:L2.St}{Y ab af:Gm}{d:D}{ds:List D}{Q:VK}
theorem KD.now (k:KD K B G I U Y d Q) (r:Rep K B G I H U Y){v:V} (h:Is K I d v):Q v H:=k v H I r (Grow.refl _ _) h
theorem KD.after (k:KD K B G I U af d Q) (g:Grow G I I1):KD K B G I1 U af d Q:=λv H' I' r g' h=>k v H' I' r (g.trans g') h
theorem KO.after (k:KO K B G I U af ds Q) (g:Grow G I I1):KO K B G I1 U af ds Q:=λp xs H' I' r g'=>k p xs H' I' r (g.trans g')
theorem KT.after {b:Bool}{Q:Bool->Hp->Prop} (k:KT K B G I U af b Q) (g:Grow G I I1):KT K B G I1 U af b Q:=λH' I' r g'=>k H' I' r (g.trans g')
theorem KD.tup (k:KD K B G I U Y (.tup ds) Q) (r:Rep K B G I H U Y){p:Addr}{xs:List V} (hp:H p=none) (h:IsA K I ds xs):Q (.ref p) (upd H p (.tup xs)) :=
 k _ _ _ (r.alloc hp _) (r.growAlloc hp _) (Is.tup (SqT.of tz) (h.mono (tY (r.iFree hp) _)))
theorem KO.new (k:KO K B G I U Y ds Q) (r:Rep K B G I H U Y){p:Addr}{xs:List V} (hp:H p=none) (h:IsA K I ds xs):Q (.ref p) (upd H p (.lst xs)) :=
 k p xs _ I (r.fresh hp _) (Grow.refl _ _) tz (r.iFree hp) (r.gFree hp) (r.apart hp) h
end
section
variable {X:Cx}{B:BB}{a b c e:Expr}{es:List Expr}{pos:Pos}{ga gb gc:M D}
def frz (g:M (List D)):M D:=bnd g λds=>ret (.lst ds)
theorem sM {g:M (List D)} (h:EO X B e g):ED X B e (frz g):=PE.imp h λU H Q q=>by
 obtain ⟨G,I,Y,d,af,r,e1,k⟩:=q
 obtain ⟨ds,ab,e2,e3⟩:=sN e1
 cases e3
 refine ⟨G,I,Y,ds,_,r,e2,λp xs H' I' r' g h1 h2 h3 h4 h5=>?_⟩
 exact k _ _ _ (r'.freeze h1 h2 h4) (g.trans (growFreeze h2 h3)) (Is.lst (RdK.of tz) (h5.mono (tY h2 _)))
noncomputable def nm (i:Nat):M D:=λY=>match Y[i]? with
 | some (some (.val d))=>some (d,Y)
 | some (some (.own ds))=>some (.lst ds,Y.set i (some (.val (.lst ds))))
 | some (some (.fro ds))=>some (.lst ds,Y)
 | _=>none
theorem DD {i:Nat}{x:Str} (h:PE X (.Name x pos) (tVar i)):ED X B (.Name x pos) (nm i):=PE.imp h λU H Q q=>by
 obtain ⟨G,I,Y,d,af,r,e1,k⟩:=q
 unfold nm at e1
 cases e:Y[i]? with
 | none=>rw [e] at e1;cases e1
 | some o =>
  cases o with
  | none=>rw [e] at e1;cases e1
  | some q =>
   obtain ⟨v,h1,h2⟩:=r.slot i q e
   cases q with
   | val d'=>rw [e] at e1;cases e1;exact ⟨v,h1,k.now r h2⟩
   | bor ds=>rw [e] at e1;cases e1
   | dic ds=>rw [e] at e1;cases e1
   | fro ds=>rw [e] at e1;cases e1;obtain ⟨p,xs,rfl,f1,f2,f3⟩:=h2;exact ⟨_,h1,k.now r (Is.lst (RdK.of f1) f3)⟩
   | own ds =>
    rw [e] at e1;cases e1
    obtain ⟨p,xs,rfl,g1,g2,g3,g4⟩:=h2
    refine ⟨_,h1,k _ _ (upd I p (.lst xs)) ?_ (growFreeze g2 g3) (Is.lst (RdK.of tz) (g4.mono (tY g2 _)))⟩
    have ap:Apart U (Y.set i none) p:=λj q' z m s=>by
     rcases tP z with ⟨_,z',_⟩ | ⟨n,z'⟩
     ·cases z'
     ·exact n (r.dist j i q' (.own ds) _ z' e m rfl s h1)
    have r1:=(r.forget i).freeze g1 g2 ap
    have r2:=r1.learn (i:=i) (q:=.val (.lst ds)) h1 (Is.lst (RdK.of tz) (g4.mono (tY g2 _))) (λm=>nomatch m) (λ_ z=>nomatch z)
    rw [set_set] at r2
    exact r2
theorem ed_c {d:D}{v:V} (h:PE X e (tC v)) (hd:∀ I,Is X.K I d v):ED X B e (ret d):=PE.imp h λU H Q q=>by
 obtain ⟨G,I,Y,d',af,r,e1,k⟩:=q
 cases e1
 exact k.now r (hd I)
theorem lK {i j}:ED X B (.Constant (.int i) j pos) (ret (.int i)):=ed_c Jp λ_=>Is.int i
theorem uk {b j}:ED X B (.Constant (.bool b) j pos) (ret (.bl b)):=ed_c Ib λ_=>Is.bl b
theorem vt {j}:ED X B (.Constant .none j pos) (ret .non):=ed_c Lg λ_=>Is.non
theorem tw {x j}:ED X B (.Constant (.str x) j pos) (ret (.str x)):=ed_c IX λ_=>Is.str x
def nilA:M (List D):=ret []
noncomputable def consA (g:M D) (t:M (List D)):M (List D):=bnd g λd=>bnd t λds=>ret (d::ds)
theorem gx:AD X B [] nilA:=PA.imp xW λU H Q q=>by
 obtain ⟨G,I,Y,d,af,r,e1,k⟩:=q
 cases e1
 exact k _ _ _ r (Grow.refl _ _) IsA.nil
theorem KW {g:M D}{t:M (List D)} (ha:ED X B e g) (hr:AD X B es t) (hs:starEach (e::es) X.env=(false,eval e X.env)::starEach es X.env:=by rfl):AD X B (e::es) (consA g t) :=
 PA.imp (wy ha hr hs) λU H Q q=>by
  obtain ⟨G,I,Y,d,af,r,e1,k⟩:=q
  obtain ⟨d1,ab,e2,e3⟩:=sN e1
  obtain ⟨d2,ah,e4,e5⟩:=sN e3
  cases e5
  exact ⟨G,I,Y,d1,ab,r,e2,λv H1 I1 r1 g1 h1=>⟨G,I1,ab,d2,_,r1,e4,λvs H2 I2 r2 g2 h2=>k _ _ _ r2 (g1.trans g2) (IsA.cons (h1.mono g2.up) h2)⟩⟩
def lim:Nat:=1000000
theorem u8 {n:Nat} (h:n<=lim):n<=sizeLine:=le_trans h (by rw [sizeLine_eq];decide)
noncomputable def tupA (t:M (List D)):M D:=bnd t λds=>lft (if ds.length<=lim then some (.tup ds) else none)
noncomputable def lstA (t:M (List D)):M (List D):=bnd t λds=>lft (if ds.length<=lim then some ds else none)
theorem tJ {α:Type}{c:Prop} [Decidable c]{a b:α} (h:(if c then some a else none)=some b):c/\b=a:=by
 by_cases hc:c
 ·rw [if_pos hc] at h;exact ⟨hc,(Option.some.inj h).symm⟩
 ·rw [if_neg hc] at h;cases h
theorem sU {x1}{t:M (List D)} (h:AD X B es t):ED X B (.Tuple es x1 pos) (tupA t):=PE.imp (Ff h) λU H Q q=>by
 obtain ⟨G,I,Y,d,af,r,e1,k⟩:=q
 obtain ⟨d1,ab,e2,e3⟩:=sN e1
 obtain ⟨e4,rfl⟩:=tx e3
 obtain ⟨hl,rfl⟩:=tJ e4
 refine ⟨G,I,Y,d1,_,r,e2,λvs H1 I1 r1 g1 h1=>⟨?_,λp hp=>(k.after g1).tup r1 hp h1⟩⟩
 rw [← h1.length];exact u8 hl
theorem sS {t:M (List D)} (h:AD X B es t):EO X B (.List es pos) (lstA t):=PE.imp (Fd h) λU H Q q=>by
 obtain ⟨G,I,Y,d,af,r,e1,k⟩:=q
 obtain ⟨d1,ab,e2,e3⟩:=sN e1
 obtain ⟨e4,rfl⟩:=tx e3
 obtain ⟨hl,rfl⟩:=tJ e4
 refine ⟨G,I,Y,_,_,r,e2,λvs H1 I1 r1 g1 h1=>⟨?_,λp hp=>(k.after g1).new r1 hp h1⟩⟩
 rw [← h1.length];exact u8 hl
def OpD (K:PySem.W.Frag) (r:R2) (F:D->D->Option D):Prop:=∀ a b d,F a b=some d->∀ (B:BB) (G I H:Hp) (U:L2.St) (Y:Gm) (x y:V) (Q:VK),Rep K B G I H U Y->Is K I a x->Is K I b y->KD K B G I U Y d Q->r x y H Q
def OpO (K:PySem.W.Frag) (r:R2) (F:D->D->Option (List D)):Prop:=∀ a b d,F a b=some d->∀ (B:BB) (G I H:Hp) (U:L2.St) (Y:Gm) (x y:V) (Q:VK),Rep K B G I H U Y->Is K I a x->Is K I b y->KO K B G I U Y d Q->r x y H Q
def CallD (K:PySem.W.Frag) (r:List V->Hp->VK->Prop) (F:List D->Option D):Prop:=∀ ds d,F ds=some d->∀ (B:BB) (G I H:Hp) (U:L2.St) (Y:Gm) (xs:List V) (Q:VK),Rep K B G I H U Y->IsA K I ds xs->KD K B G I U Y d Q->r xs H Q
def CallO (K:PySem.W.Frag) (r:List V->Hp->VK->Prop) (F:List D->Option (List D)):Prop:=∀ ds d,F ds=some d->∀ (B:BB) (G I H:Hp) (U:L2.St) (Y:Gm) (xs:List V) (Q:VK),Rep K B G I H U Y->IsA K I ds xs->KO K B G I U Y d Q->r xs H Q
noncomputable def op2 {α:Type} (F:D->D->Option α) (ga gb:M D):M α:=bnd ga λx=>bnd gb λy=>lft (F x y)
noncomputable def fn1 {α:Type} (F:List D->Option α) (t:M (List D)):M α:=bnd t λds=>lft (F ds)
theorem t_op {r:R2}{F:D->D->Option D}{K:PySem.W.Frag} (h:OpD K r F):∀ U H Q,tD K B (op2 F ga gb) U H Q->tOp r (tD K B ga) (tD K B gb) U H Q:=λU H Q q=>by
 obtain ⟨G,I,Y,d,af,r,e1,k⟩:=q
 obtain ⟨d1,ab,e2,e3⟩:=sN e1
 obtain ⟨d2,ah,e4,e5⟩:=sN e3
 obtain ⟨e6,rfl⟩:=tx e5
 exact ⟨G,I,Y,d1,ab,r,e2,λv H1 I1 r1 g1 h1=>⟨G,I1,ab,d2,_,r1,e4,λw H2 I2 r2 g2 h2=>h _ _ _ e6 B G I2 H2 U _ v w Q r2 (h1.mono g2.up) h2 (k.after (g1.trans g2))⟩⟩
theorem BP {r:R2}{F:D->D->Option (List D)}{K:PySem.W.Frag} (h:OpO K r F):∀ U H Q,tO K B (op2 F ga gb) U H Q->tOp r (tD K B ga) (tD K B gb) U H Q:=λU H Q q=>by
 obtain ⟨G,I,Y,d,af,r,e1,k⟩:=q
 obtain ⟨d1,ab,e2,e3⟩:=sN e1
 obtain ⟨d2,ah,e4,e5⟩:=sN e3
 obtain ⟨e6,rfl⟩:=tx e5
 exact ⟨G,I,Y,d1,ab,r,e2,λv H1 I1 r1 g1 h1=>⟨G,I1,ab,d2,_,r1,e4,λw H2 I2 r2 g2 h2=>h _ _ _ e6 B G I2 H2 U _ v w Q r2 (h1.mono g2.up) h2 (k.after (g1.trans g2))⟩⟩
theorem vM {op:Operator}{r:R2}{F:D->D->Option D} (ho:OpR X (binaryOp op) r) (h:OpD X.K r F) (ha:ED X B a ga) (hb:ED X B b gb):ED X B (.BinOp a op b pos) (op2 F ga gb):=PE.imp (Cm ho ha hb) (t_op h)
theorem JN {op:Operator}{r:R2}{F:D->D->Option (List D)} (ho:OpR X (binaryOp op) r) (h:OpO X.K r F) (ha:ED X B a ga) (hb:ED X B b gb):EO X B (.BinOp a op b pos) (op2 F ga gb):=PE.imp (Cm ho ha hb) (BP h)
theorem vJ {op:CmpOp}{r:R2}{F:D->D->Option D} (ho:OpR X (compareOp op) r) (h:OpD X.K r F) (ha:ED X B a ga) (hb:ED X B b gb) (hm:behindInMarks op b=false:=by first | exact nomark _ | rfl):ED X B (.Compare a [op] [b] pos) (op2 F ga gb):=PE.imp (Mo ho ha hb hm) (t_op h)
theorem F5 {r:R2}{F:D->D->Option D} (ho:IxR X r) (h:OpD X.K r F) (ha:ED X B a ga) (hb:ED X B b gb) (hs:PlainIx b:=by exact λ_ _=>rfl):ED X B (.Subscript a b pos) (op2 F ga gb):=PE.imp (Es ho ha hb hs) (t_op h)
noncomputable def asB (d:D):Option Bool:=match d with
 | .bl b=>some b
 | _=>none
theorem zJ {d:D}{b:Bool} (h:asB d=some b):d=.bl b:=by
 cases d<;>simp [asB] at h
 rw [h]
def tst (g:M D):M Bool:=bnd g λd=>lft (asB d)
theorem xo {K:PySem.W.Frag}{g:M D}{t:TE} (ht:∀ U H Q,tD K B g U H Q->t U H Q):∀ U H Q,tTD K B (tst g) U H Q->tTest t U H Q:=λU H Q q=>by
 obtain ⟨G,I,Y,d,af,r,e1,k⟩:=q
 obtain ⟨d1,ab,e2,e3⟩:=sN e1
 obtain ⟨e4,rfl⟩:=tx e3
 have:=zJ e4
 subst this
 exact ht _ _ _ ⟨G,I,Y,_,_,r,e2,λv H1 I1 r1 g1 h1=>⟨d,tV h1,k _ _ r1 g1⟩⟩
theorem uJ {op:CmpOp}{r:R2}{F:D->D->Option D} (ho:OpR X (compareOp op) r) (h:OpD X.K r F) (ha:ED X B a ga) (hb:ED X B b gb) (hm:behindInMarks op b=false:=by first | exact nomark _ | rfl):TD X B (.Compare a [op] [b] pos) (tst (op2 F ga gb)):=PT.imp (AQ ho ha hb hm) (xo (t_op h))
theorem uF (ha:ED X B a ga) (he:∀ bL,isTrue a X.env bL=(do let v ← bL;standAt a.pos;holding [v] (truthy v)):=by intro _;rfl):TD X B a (tst ga):=PT.imp (HG ha he) (xo λ_ _ _ z=>z)
noncomputable def chn (F F':D->D->Option D) (ga gb gc:M D):M D:=bnd ga λx=>bnd gb λy=>bnd (lft (F x y)) λz=>bnd (lft (asB z)) λk=>if k then bnd gc λw=>lft (F' y w) else ret (.bl false)
theorem Ji {r r':R2}{F F':D->D->Option D}{K:PySem.W.Frag} (h:OpD K r F) (h':OpD K r' F'):∀ U H Q,tD K B (chn F F' ga gb gc) U H Q->tChain r r' (tD K B ga) (tD K B gb) (tD K B gc) U H Q:=λU H Q q=>by
 obtain ⟨G,I,Y,d,af,r,e1,k⟩:=q
 obtain ⟨d1,ab,e2,e3⟩:=sN e1
 obtain ⟨d2,ah,e4,e5⟩:=sN e3
 obtain ⟨d3,aR,e6,e7⟩:=sN e5
 obtain ⟨e8,rfl⟩:=tx e6
 obtain ⟨k1,aP,e9,f1⟩:=sN e7
 obtain ⟨f2,rfl⟩:=tx e9
 have:=zJ f2
 subst this
 refine ⟨G,I,Y,d1,ab,r,e2,λv H1 I1 r1 g1 h1=>⟨G,I1,ab,d2,aP,r1,e4,λw H2 I2 r2 g2 h2=>h _ _ _ e8 B G I2 H2 U aP v w _ r2 (h1.mono g2.up) h2 λu H3 I3 r3 g3 h3=>⟨k1,tV h3,?_⟩⟩⟩
 cases k1 with
 | false=>cases f1;exact iteF (k _ _ _ r3 (g1.trans (g2.trans g3)) (Is.bl false))
 | true =>
  obtain ⟨d4,dU,f3,f4⟩:=sN f1
  obtain ⟨f5,rfl⟩:=tx f4
  exact iteT ⟨G,I3,aP,d4,_,r3,f3,λz H4 I4 r4 g4 h4=>h' _ _ _ f5 B G I4 H4 U _ w z Q r4 (h2.mono (g3.trans g4).up) h4 (k.after (g1.trans (g2.trans (g3.trans g4))))⟩
theorem Kr {op eL:CmpOp}{r r':R2}{F F':D->D->Option D} (ho:OpR X (compareOp op) r) (h:OpD X.K r F) (cJ:OpR X (compareOp eL) r') (h':OpD X.K r' F') (ha:ED X B a ga) (hb:ED X B b gb) (hc:ED X B c gc)
  (hm:lastMarks [op,eL] [b,c]=false:=by with_unfolding_all rfl):ED X B (.Compare a [op,eL] [b,c] pos) (chn F F' ga gb gc):=PE.imp (IP ho cJ ha hb hc hm) (Ji h h')
noncomputable def andT (a b:M Bool):M Bool:=bnd a λk=>if k then b else ret false
noncomputable def orT (a b:M Bool):M Bool:=bnd a λk=>if k then ret true else b
def notT (a:M Bool):M Bool:=bnd a λk=>ret (!k)
noncomputable def andV (a b:M D):M D:=bnd a λd=>bnd (lft (asB d)) λk=>if k then b else ret (.bl false)
variable {ta tb:M Bool}{am:List Expr}
theorem xi (ha:TD X B a ta):TW X B (.BoolOp .And [a] pos) ta:=Gy ha
theorem vh (ha:TD X B a ta):TW X B (.BoolOp .Or [a] pos) ta:=KF ha
theorem yb (ha:TD X B a ta) (hb:TW X B (.BoolOp .And (b::am) pos) tb):TW X B (.BoolOp .And (a::b::am) pos) (andT ta tb):=PW.imp (J2 ha hb) λU H Q q=>by
 obtain ⟨G,I,Y,d,af,r,e1,k⟩:=q
 obtain ⟨d1,ab,e2,e3⟩:=sN e1
 refine ⟨G,I,Y,d1,ab,r,e2,λH1 I1 r1 g1=>?_⟩
 cases d1 with
 | true=>exact iteT ⟨G,I1,ab,d,af,r1,e3,k.after g1⟩
 | false=>cases e3;exact iteF (k _ _ r1 g1)
theorem uH (ha:TD X B a ta) (hb:TW X B (.BoolOp .Or (b::am) pos) tb):TW X B (.BoolOp .Or (a::b::am) pos) (orT ta tb):=PW.imp (HD ha hb) λU H Q q=>by
 obtain ⟨G,I,Y,d,af,r,e1,k⟩:=q
 obtain ⟨d1,ab,e2,e3⟩:=sN e1
 refine ⟨G,I,Y,d1,ab,r,e2,λH1 I1 r1 g1=>?_⟩
 cases d1 with
 | false=>exact iteF ⟨G,I1,ab,d,af,r1,e3,k.after g1⟩
 | true=>cases e3;exact iteT (k _ _ r1 g1)
theorem TW.td (h:TW X B e ta):TD X B e ta:=h _
theorem Ay (ha:TD X B a ta):TD X B (.UnaryOp .Not a pos) (notT ta):=PT.imp (EV ha) λU H Q q=>by
 obtain ⟨G,I,Y,d,af,r,e1,k⟩:=q
 obtain ⟨d1,ab,e2,e3⟩:=sN e1
 cases e3
 exact ⟨G,I,Y,d1,_,r,e2,λH1 I1 r1 g1=>k _ _ r1 g1⟩
theorem xt {op} (h:ED X B a ga):ED X B (.BoolOp op [a] pos) ga:=LB h
theorem xf (ha:ED X B a ga) (hb:ED X B (.BoolOp .And (b::am) pos) gb):ED X B (.BoolOp .And (a::b::am) pos) (andV ga gb):=PE.imp (JH ha hb) λU H Q q=>by
 obtain ⟨G,I,Y,d,af,r,e1,k⟩:=q
 obtain ⟨d1,ab,e2,e3⟩:=sN e1
 obtain ⟨k1,ah,e4,e5⟩:=sN e3
 obtain ⟨e6,rfl⟩:=tx e4
 have:=zJ e6
 subst this
 refine ⟨G,I,Y,_,_,r,e2,λv H1 I1 r1 g1 h1=>⟨k1,tV h1,?_⟩⟩
 cases k1 with
 | true=>exact iteT ⟨G,I1,_,d,af,r1,e5,k.after g1⟩
 | false=>cases e5;exact iteF (k _ _ _ r1 g1 (Is.bl false))
variable {x:Str}{p:Pos}{id T:String}{r:List V->Hp->VK->Prop}{t:M (List D)}
theorem t_fn {F:List D->Option D}{K:PySem.W.Frag} (h:CallD K r F):∀ U H Q,tD K B (fn1 F t) U H Q->tCB r (tAD K B t) U H Q:=λU H Q q=>by
 obtain ⟨G,I,Y,d,af,r,e1,k⟩:=q
 obtain ⟨d1,ab,e2,e3⟩:=sN e1
 obtain ⟨e4,rfl⟩:=tx e3
 exact ⟨G,I,Y,d1,_,r,e2,λvs H1 I1 r1 g1 h1=>h _ _ e4 B G I1 H1 U _ vs Q r1 h1 (k.after g1)⟩
theorem zL {F:List D->Option (List D)}{K:PySem.W.Frag} (h:CallO K r F):∀ U H Q,tO K B (fn1 F t) U H Q->tCB r (tAD K B t) U H Q:=λU H Q q=>by
 obtain ⟨G,I,Y,d,af,r,e1,k⟩:=q
 obtain ⟨d1,ab,e2,e3⟩:=sN e1
 obtain ⟨e4,rfl⟩:=tx e3
 exact ⟨G,I,Y,d1,_,r,e2,λvs H1 I1 r1 g1 h1=>h _ _ e4 B G I1 H1 U _ vs Q r1 h1 (k.after g1)⟩
theorem uG {F:List D->Option D} (hc:CallR X (.builtin id) r) (h:CallD X.K r F) (hg:Gl X x) (hm:X.mg x=none) (hv:bootBuiltins x=some (.builtin id)) (ha:AD X B (e::es) t) (hn:x ≠ "__name__":=by decide) (bi:(x == ("__debug__":Str))=false:=by decide)
  (he:starEach (e::es) X.env=(false,eval e X.env)::starEach es X.env:=by rfl) (az:(backTo pos (starEach es X.env)).any (·.1)=false:=by rfl):ED X B (.Call (.Name x p) (e::es) [] pos) (fn1 F t):=PE.imp (yT hc hg hm hv ha hn bi he az) (t_fn h)
theorem FU {F:List D->Option (List D)} (hc:CallR X (.builtin id) r) (h:CallO X.K r F) (hg:Gl X x) (hm:X.mg x=none) (hv:bootBuiltins x=some (.builtin id)) (ha:AD X B (e::es) t) (hn:x ≠ "__name__":=by decide) (bi:(x == ("__debug__":Str))=false:=by decide)
  (he:starEach (e::es) X.env=(false,eval e X.env)::starEach es X.env:=by rfl) (az:(backTo pos (starEach es X.env)).any (·.1)=false:=by rfl):EO X B (.Call (.Name x p) (e::es) [] pos) (fn1 F t):=PE.imp (yT hc hg hm hv ha hn bi he az) (zL h)
theorem Dr {F:List D->Option D} (hc:CallR X (.type T) r) (h:CallD X.K r F) (hg:Gl X x) (hm:X.mg x=none) (hv:bootBuiltins x=some (.type T)) (ha:AD X B (e::es) t) (hn:x ≠ "__name__":=by decide) (bi:(x == ("__debug__":Str))=false:=by decide)
  (he:starEach (e::es) X.env=(false,eval e X.env)::starEach es X.env:=by rfl) (az:(backTo pos (starEach es X.env)).any (·.1)=false:=by rfl):ED X B (.Call (.Name x p) (e::es) [] pos) (fn1 F t):=PE.imp (DT hc hg hm hv ha hn bi he az) (t_fn h)
theorem Ft {F:List D->Option (List D)} (hc:CallR X (.type T) r) (h:CallO X.K r F) (hg:Gl X x) (hm:X.mg x=none) (hv:bootBuiltins x=some (.type T)) (ha:AD X B (e::es) t) (hn:x ≠ "__name__":=by decide) (bi:(x == ("__debug__":Str))=false:=by decide)
  (he:starEach (e::es) X.env=(false,eval e X.env)::starEach es X.env:=by rfl) (az:(backTo pos (starEach es X.env)).any (·.1)=false:=by rfl):EO X B (.Call (.Name x p) (e::es) [] pos) (fn1 F t):=PE.imp (DT hc hg hm hv ha hn bi he az) (zL h)
end
inductive Fl where
 | nx | rt (r:R) | bk | ct
def ResOk (K:PySem.W.Frag) (G I H:Hp) (U:L2.St) (Y:Gm):R->V->Prop
 | .val d,v=>Is K I d v
 | .own ds,v=>∃ p xs,v=.ref p/\H p=some (.lst xs)/\I p=none/\G p=none/\Apart U Y p/\IsA K I ds xs
 | .bor _,_=>False
 | .fro ds,v=>∃ p xs,v=.ref p/\I p=some (.lst xs)/\G p=none/\IsA K I ds xs
 | .dic aO,v=>∃ p xs,v=.ref p/\H p=some (.dK xs)/\I p=none/\G p=none/\Apart U Y p/\IsK K I aO xs
def EndAt (K:PySem.W.Frag) (G I H:Hp) (U:L2.St) (Y:Gm) (E:Ends):Fl->Prop
 | .nx=>E.nx U H
 | .bk=>E.bk U H
 | .ct=>E.ct U H
 | .rt r=>∀ v,ResOk K G I H U Y r v->E.rt v H
section
variable (K:PySem.W.Frag) (B:BB)
def KS (G I:Hp) (af:Gm) (f:Fl) (E:Ends):Prop:=∀ aj H' I',Rep K B G I' H' aj af->Grow G I I'->EndAt K G I' H' aj af E f
noncomputable def tS (g:M Fl):TS:=λE U H=>∃ G I Y f af,Rep K B G I H U Y/\g Y=some (f,af)/\KS K B G I af f E
def KG (m:Nat) (U:L2.St) (G I:Hp) (af:Gm) (Q:L2.St->Hp->Prop):Prop:=∀ aj H' I',Rep K B G I' H' aj af->Grow G I I'->aj.drop m=U.drop m->Q aj H'
noncomputable def tGD (m:Nat) (f:D->M Unit):TG:=λv U H Q=>∃ G I Y d af,Rep K B G I H U Y/\Is K I d v/\f d Y=some ((),af)/\KG K B m U G I af Q
noncomputable def tGs (m:Nat) (f:List D->M Unit):TGs:=λvs U H Q=>∃ G I Y ds af,Rep K B G I H U Y/\IsA K I ds vs/\f ds Y=some ((),af)/\KG K B m U G I af Q
end
def SD (X:Cx) (B:BB) (st:Stmt) (g:M Fl):Prop:=PS X st (tS X.K B g)
def SDs (X:Cx) (B:BB) (st:List Stmt) (g:M Fl):Prop:=PSs X st (tS X.K B g)
def GD (X:Cx) (B:BB) (m:Nat) (tg:Expr) (f:D->M Unit):Prop:=PG X tg (tGD X.K B m f)
def GDs (X:Cx) (B:BB) (m:Nat) (iD:List Expr) (f:List D->M Unit):Prop:=PGs X iD (tGs X.K B m f)
section
variable {X:Cx}
theorem PS.imp {st:Stmt}{t t':TS} (h:PS X st t) (f:∀ E U H,t' E U H->t E U H):PS X st t':=λaa s U H E I q=>h aa s U H E I (f E U H q)
theorem PSs.imp {st:List Stmt}{t t':TS} (h:PSs X st t) (f:∀ E U H,t' E U H->t E U H):PSs X st t':=λaa s U H E I q=>h aa s U H E I (f E U H q)
theorem PG.imp {tg:Expr}{t t':TG} (h:PG X tg t) (f:∀ v U H Q,t' v U H Q->t v U H Q):PG X tg t':=λaa s U H v u Q I r q=>h aa s U H v u Q I r (f v U H Q q)
theorem PGs.imp {iD:List Expr}{t t':TGs} (h:PGs X iD t) (f:∀ v U H Q,t' v U H Q->t v U H Q):PGs X iD t':=λaa s U H v u Q I r q=>h aa s U H v u Q I r (f v U H Q q)
theorem PI.imp {tg iter:Expr}{t t':TI} (h:PI X tg iter t) (f:∀ U H Q,t' U H Q->t U H Q):PI X tg iter t':=λaa s U H R I q=>h aa s U H R I (f U H R q)
end
section
variable {K:PySem.W.Frag}{B:BB}{G I I1 H:Hp}{Y af:Gm}{f:Fl}{E:Ends}
theorem KS.after (k:KS K B G I af f E) (g:Grow G I I1):KS K B G I1 af f E:=λaj H' I' r g'=>k aj H' I' r (g.trans g')
theorem KG.after {m:Nat}{U bZ:L2.St}{Q:L2.St->Hp->Prop} (k:KG K B m U G I af Q) (g:Grow G I I1) (hs:bZ.drop m=U.drop m):KG K B m bZ G I1 af Q:=λaj H' I' r g' z=>k aj H' I' r (g.trans g') (z.trans hs)
end
section
variable {X:Cx}{B:BB}{a b c e:Expr}{es:List Expr}{pos:Pos}{ga gb gc:M D}{st:Stmt}{am:List Stmt}{g h:M Fl}
noncomputable def seqS (g h:M Fl):M Fl:=bnd g λf=>match f with
 | .nx=>h
 | .rt r=>ret (.rt r)
 | .bk=>ret .bk
 | .ct=>ret .ct
theorem GW:SDs X B [] (ret .nx):=PSs.imp HF λE U H q=>by
 obtain ⟨G,I,Y,f,af,r,e1,k⟩:=q
 cases e1
 exact k U H I r (Grow.refl _ _)
theorem LZ (h:SD X B st g):SDs X B [st] g:=Gg h
theorem ET (h1:SD X B st g) (h2:SDs X B am h):SDs X B (st::am) (seqS g h):=PSs.imp (Js h1 h2) λE U H q=>by
 obtain ⟨G,I,Y,f,af,r,e1,k⟩:=q
 obtain ⟨f1,ab,e2,e3⟩:=sN e1
 refine ⟨G,I,Y,f1,ab,r,e2,λbZ H1 I1 r1 g1=>?_⟩
 cases f1 with
 | nx=>exact ⟨G,I1,ab,f,af,r1,e3,k.after g1⟩
 | bk=>cases e3;exact k bZ H1 I1 r1 g1
 | ct=>cases e3;exact k bZ H1 I1 r1 g1
 | rt v=>cases e3;exact k bZ H1 I1 r1 g1
theorem Kz:SD X B st (λ_=>none):=PS.imp J9 λE U H q=>by
 obtain ⟨G,I,Y,f,af,r,e1,k⟩:=q
 cases e1
def dropS (g:M D):M Fl:=bnd g λ_=>ret .nx
theorem vQ (he:ED X B e ga) (hs:swapsWith e none pos.line X.env=pure false:=by rfl):SD X B (.Expr e pos) (dropS ga):=PS.imp (Ao he hs) λE U H q=>by
 obtain ⟨G,I,Y,f,af,r,e1,k⟩:=q
 obtain ⟨d1,ab,e2,e3⟩:=sN e1
 cases e3
 exact ⟨G,I,Y,d1,_,r,e2,λv H1 I1 r1 g1 h1=>k U H1 I1 r1 g1⟩
def retS (g:M D):M Fl:=bnd g λd=>ret (.rt (.val d))
theorem sQ (he:ED X B e ga):SD X B (.Return (some e) pos) (retS ga):=PS.imp (Bf he) λE U H q=>by
 obtain ⟨G,I,Y,f,af,r,e1,k⟩:=q
 obtain ⟨d1,ab,e2,e3⟩:=sN e1
 cases e3
 exact ⟨G,I,Y,d1,_,r,e2,λv H1 I1 r1 g1 h1=>k U H1 I1 r1 g1 v h1⟩
noncomputable def retO (g:M (List D)):M Fl:=bnd g λd=>ret (.rt (.own d))
theorem yP {g:M (List D)} (he:EO X B e g):SD X B (.Return (some e) pos) (retO g):=PS.imp (Bf he) λE U H q=>by
 obtain ⟨G,I,Y,f,af,r,e1,k⟩:=q
 obtain ⟨d1,ab,e2,e3⟩:=sN e1
 cases e3
 exact ⟨G,I,Y,d1,_,r,e2,λp xs H1 I1 r1 g1 h1 h2 h3 h4 h5=>k U H1 I1 r1 g1 _ ⟨p,xs,rfl,h1,h2,h3,h4,h5⟩⟩
noncomputable def ifS (c:M Bool) (a b:M Fl):M Fl:=bnd c λk=>if k then a else b
theorem IV {tc:M Bool}{sa sb:List Stmt} (hc:TD X B c tc) (ha:SDs X B sa g) (hb:SDs X B sb h):SD X B (.If c sa sb pos) (ifS tc g h):=PS.imp (GR hc ha hb) λE U H q=>by
 obtain ⟨G,I,Y,f,af,r,e1,k⟩:=q
 obtain ⟨d1,ab,e2,e3⟩:=sN e1
 refine ⟨G,I,Y,d1,ab,r,e2,λH1 I1 r1 g1=>?_⟩
 cases d1 with
 | true=>exact iteT ⟨G,I1,ab,f,af,r1,e3,k.after g1⟩
 | false=>exact iteF ⟨G,I1,ab,f,af,r1,e3,k.after g1⟩
noncomputable def putS (i:Nat) (q:R):M Unit:=λY=>if i < Y.length then some ((),Y.set i (some q)) else none
def tgN (i:Nat) (d:D):M Unit:=putS i (.val d)
theorem xk {i:Nat}{q:R}{Y af:Gm}{u:Unit} (h:putS i q Y=some (u,af)):i < Y.length/\af=Y.set i (some q):=by
 unfold putS at h
 obtain ⟨h1,h2⟩:=tJ h
 cases h2
 exact ⟨h1,rfl⟩
theorem DO {α:Type}:∀ {l:List α}{i m:Nat}{a:α},i < m->(l.set i a).drop m=l.drop m
 | [],_,_,_,_=>rfl
 | _::_,0,m+1,_,_=>rfl
 | _::r,i+1,m+1,a,h=>by
  rw [List.set_cons_succ,drop_succ_cons,drop_succ_cons]
  exact DO (Nat.lt_of_succ_lt_succ h)
theorem gd_n {i m:Nat}{x:Str} (hN:X.N.Nodup) (hi:X.N[i]?=some x:=by rfl) (hx:locB X.env.scope x=true:=by rfl) (hf:fnB X x=true:=by rfl) (oH:i < m:=by decide):GD X B m (.Name x pos) (tgN i) :=
 PG.imp (IQ hN hi (locI hx) (fnI hf)) λv U H Q q=>by
  obtain ⟨G,I,Y,d,af,r,hd,e1,k⟩:=q
  obtain ⟨hl,rfl⟩:=xk e1
  exact k _ _ I (r.store (by rw [r.len];exact hl) hd (λm=>nomatch m) (λ_ z=>nomatch z)) (Grow.refl _ _) (DO oH)
noncomputable def tgNil (ds:List D):M Unit:=match ds with
 | []=>ret ()
 | _=>λ_=>none
noncomputable def tgCons (f:D->M Unit) (t:List D->M Unit) (ds:List D):M Unit:=match ds with
 | d::r=>bnd (f d) λ_=>t r
 | []=>λ_=>none
theorem ug {m:Nat}:GDs X B m [] tgNil:=PGs.imp GL λv U H Q q=>by
 obtain ⟨G,I,Y,ds,af,r,hd,e1,k⟩:=q
 cases ds with
 | nil=>cases e1;exact ⟨hd.nil_inv,k _ _ I r (Grow.refl _ _) rfl⟩
 | cons d t=>cases e1
theorem tE {m:Nat}{f:D->M Unit}{t:List D->M Unit} (h1:GD X B m e f) (h2:GDs X B m es t) (hs:(assignEach (e::es) X.env).map (·.2)=assign e X.env::(assignEach es X.env).map (·.2):=by rfl):GDs X B m (e::es) (tgCons f t):=PGs.imp (KY h1 h2 hs) λv U H Q q=>by
 obtain ⟨G,I,Y,ds,af,r,hd,e1,k⟩:=q
 cases ds with
 | nil=>cases e1
 | cons d t =>
  obtain ⟨x,xs,rfl,h1,h2⟩:=hd.cons_inv
  obtain ⟨u,ab,e2,e3⟩:=sN e1
  exact ⟨x,xs,rfl,G,I,Y,d,ab,r,h1,e2,λbZ H1 I1 r1 g1 z=>⟨G,I1,ab,t,af,r1,h2.mono g1.up,e3,k.after g1 z⟩⟩
noncomputable def tgTup (n:Nat) (t:List D->M Unit) (d:D):M Unit:=match d with
 | .tup ds=>if ds.length=n then t ds else λ_=>none
 | _=>λ_=>none
theorem um {k m:Nat}{t:List D->M Unit}{n:Nat} (hc:X.calm=true) (h:GDs X B m es t) (hn:(assignEach es X.env).length=n:=by rfl) (jQ:(assignEach es X.env).findIdx? (·.1)=none:=by rfl):GD X B m (.Tuple es k pos) (tgTup n t) :=
 PG.imp (Ie hc h hn jQ) λv U H Q q=>by
  obtain ⟨G,I,Y,d,af,r,hd,e1,k⟩:=q
  cases d with
  | tup ds =>
   obtain ⟨a,xs,rfl,h1,h2⟩:=sZ hd
   unfold tgTup at e1
   by_cases hl:ds.length=n
   ·simp only [hl,if_true] at e1
    exact ⟨a,xs,rfl,Same.sqT r.iH h1,by rw [← h2.length];exact hl,G,I,Y,ds,af,r,h2,e1,k⟩
   ·simp only [hl,if_false] at e1;cases e1
  | _=>cases e1
noncomputable def asgS (g:M D) (f:D->M Unit):M Fl:=bnd g λd=>bnd (f d) λ_=>ret .nx
theorem yS {m:Nat}{tg:Expr}{f:D->M Unit} (he:ED X B e ga) (hg:GD X B m tg f) (hs:swapsWithSole [tg] e pos.line X.env=pure false:=by rfl) (hw:swappedStores [tg] e X.env=pure none:=by rfl)
  (h1:(assignEach [tg] X.env).map (·.2)=[assign tg X.env]:=by rfl):SD X B (.Assign [tg] e pos) (asgS ga f):=PS.imp (CN he hg hs hw h1) λE U H q=>by
 obtain ⟨G,I,Y,f,af,r,e1,k⟩:=q
 obtain ⟨d1,ab,e2,e3⟩:=sN e1
 obtain ⟨d2,ah,e4,e5⟩:=sN e3
 cases e5
 exact ⟨G,I,Y,d1,ab,r,e2,λv H1 I1 r1 g1 h1=>⟨G,I1,ab,d1,_,r1,h1,e4,λaW H2 I2 r2 g2 _=>k aW H2 I2 r2 (g1.trans g2)⟩⟩
noncomputable def setV (i:Nat) (g:M D):M Fl:=bnd g λd=>bnd (putS i (.val d)) λ_=>ret .nx
noncomputable def setO (i:Nat) (g:M (List D)):M Fl:=bnd g λd=>bnd (putS i (.own d)) λ_=>ret .nx
theorem JE {K:PySem.W.Frag}{i:Nat}:∀ E U H,tS K B (setV i ga) E U H->tAsg (tD K B ga) (gName i) E U H:=λE U H q=>by
 obtain ⟨G,I,Y,f,af,r,e1,k⟩:=q
 obtain ⟨d1,ab,e2,e3⟩:=sN e1
 obtain ⟨d2,ah,e4,e5⟩:=sN e3
 cases e5
 obtain ⟨hl,rfl⟩:=xk e4
 exact ⟨G,I,Y,d1,ab,r,e2,λv H1 I1 r1 g1 h1=>k _ H1 I1 (r1.store (by rw [r1.len];exact hl) h1 (λm=>nomatch m) (λ_ z=>nomatch z)) g1⟩
theorem Ih {K:PySem.W.Frag}{i:Nat}{g:M (List D)}:∀ E U H,tS K B (setO i g) E U H->tAsg (tO K B g) (gName i) E U H:=λE U H q=>by
 obtain ⟨G,I,Y,f,af,r,e1,k⟩:=q
 obtain ⟨d1,ab,e2,e3⟩:=sN e1
 obtain ⟨d2,ah,e4,e5⟩:=sN e3
 cases e5
 obtain ⟨hl,rfl⟩:=xk e4
 exact ⟨G,I,Y,d1,ab,r,e2,λp xs H1 I1 r1 g1 h1 h2 h3 h4 h5=>k _ H1 I1 (r1.store (by rw [r1.len];exact hl) ⟨p,xs,rfl,h1,h2,h3,h5⟩ (λ_ p' z=>by cases z;exact h4) (λ_ z=>nomatch z)) g1⟩
theorem Ja {i:Nat}{x:Str}{aH:Pos} (hN:X.N.Nodup) (he:ED X B e ga) (hi:X.N[i]?=some x:=by rfl) (hx:locB X.env.scope x=true:=by rfl) (hs:swapsWith e (some (.Name x aH)) pos.line X.env=pure false:=by rfl)
  (hf:fnB X x=true:=by rfl):SD X B (.Assign [.Name x aH] e pos) (setV i ga):=PS.imp (EC hN hi (locI hx) he hs (fnI hf)) JE
theorem uw {i:Nat}{x:Str}{aH:Pos}{g:M (List D)} (hN:X.N.Nodup) (he:EO X B e g) (hi:X.N[i]?=some x:=by rfl) (hx:locB X.env.scope x=true:=by rfl) (hs:swapsWith e (some (.Name x aH)) pos.line X.env=pure false:=by rfl)
  (hf:fnB X x=true:=by rfl):SD X B (.Assign [.Name x aH] e pos) (setO i g):=PS.imp (EC hN hi (locI hx) he hs (fnI hf)) Ih
noncomputable def isMut (Y:Gm) (i:Nat):Bool:=match Y[i]? with
 | some (some r)=>r.mut
 | _=>false
noncomputable def wr (i:Nat) (F:List D->Option (List D)):M Unit:=λY=>match Y[i]? with
 | some (some (.own ds))=>match F ds with
  | some es=>some ((),Y.set i (some (.own es)))
  | none=>none
 | some (some (.bor ds))=>match F ds with
  | some es=>some ((),Y.set i (some (.bor es)))
  | none=>none
 | _=>none
theorem vw {K:PySem.W.Frag}{G I H:Hp}{U:L2.St}{Y:Gm}{i:Nat} (h:isMut Y i=true) (r:Rep K B G I H U Y):∃ p xs,U[i]?=some (some (.ref p))/\H p=some (.lst xs):=by
 unfold isMut at h
 cases e:Y[i]? with
 | none=>rw [e] at h;cases h
 | some o =>
  cases o with
  | none=>rw [e] at h;cases h
  | some q =>
   rw [e] at h
   obtain ⟨v,h1,h2⟩:=r.slot i q e
   cases q with
   | val d=>cases h
   | fro d=>cases h
   | dic d=>cases h
   | own d=>obtain ⟨p,xs,rfl,h3,_⟩:=h2;exact ⟨p,xs,h1,h3⟩
   | bor d=>obtain ⟨p,xs,rfl,h3,_⟩:=h2;exact ⟨p,xs,h1,h3⟩
theorem yq {K:PySem.W.Frag}{G I H:Hp}{U:L2.St}{Y af:Gm}{i:Nat}{F:List D->Option (List D)}{u:Unit} (h:wr i F Y=some (u,af)) (r:Rep K B G I H U Y) :
  ∃ p xs ds es,U[i]?=some (some (.ref p))/\H p=some (.lst xs)/\IsA K I ds xs/\F ds=some es/\∀ ys,IsA K I es ys->Rep K B G I (upd H p (.lst ys)) U af:=by
 unfold wr at h
 cases e:Y[i]? with
 | none=>rw [e] at h;cases h
 | some o =>
  cases o with
  | none=>rw [e] at h;cases h
  | some q =>
   obtain ⟨v,h1,h2⟩:=r.slot i q e
   cases q with
   | val d=>rw [e] at h;cases h
   | fro d=>rw [e] at h;cases h
   | dic d=>rw [e] at h;cases h
   | own ds =>
    rw [e] at h
    obtain ⟨p,xs,rfl,g1,g2,g3,g4⟩:=h2
    cases hf:F ds with
    | none=>simp only [hf] at h;cases h
    | some es =>
     simp only [hf] at h;cases h
     exact ⟨p,xs,ds,es,h1,g1,g4,hf,λys hy=>r.write e rfl h1 g1 (.inl rfl) hy⟩
   | bor ds =>
    rw [e] at h
    obtain ⟨p,xs,rfl,g1,g2,g3,g4⟩:=h2
    cases hf:F ds with
    | none=>simp only [hf] at h;cases h
    | some es =>
     simp only [hf] at h;cases h
     exact ⟨p,xs,ds,es,h1,g1,g4,hf,λys hy=>r.write e rfl h1 g1 (.inr ⟨rfl,ds,rfl⟩) hy⟩
noncomputable def mutS {α:Type} (i:Nat) (m:M α):M α:=λY=>if isMut Y i then m Y else none
theorem vT {α:Type}{i:Nat}{m:M α}{Y:Gm}{r:α×Gm} (h:mutS i m Y=some r):isMut Y i=true/\m Y=some r:=by
 unfold mutS at h
 by_cases hc:isMut Y i=true
 ·rw [if_pos hc] at h;exact ⟨hc,h⟩
 ·rw [if_neg hc] at h;cases h
noncomputable def appF (d:D) (ds:List D):Option (List D):=if ds.length < lim then some (ds++[d]) else none
noncomputable def extF (d:D) (ds:List D):Option (List D):=match d with
 | .lst es=>if ds.length+es.length<=lim then some (ds++es) else none
 | _=>none
noncomputable def appS (i:Nat) (g:M D):M Fl:=mutS i (bnd g λd=>bnd (wr i (appF d)) λ_=>ret .nx)
noncomputable def extS (i:Nat) (g:M D):M Fl:=mutS i (bnd g λd=>bnd (wr i (extF d)) λ_=>ret .nx)
theorem AB {aa:List (Addr×Obj)}{U:L2.St}{H:Hp}{s:Shared}{l:Addr}{xs:List V} (I:Inv X aa U H s) (hH:RdK X.K H l xs):xs.length<=sizeLine/\∃ (ac:List Value) (n:Nat),Vals xs ac/\xs.length=ac.length/\s.heap.get? l=some { cls:=.type "list", data:=.seq ac.toArray n }:=by
 rcases hH with hH | ⟨ac,n,h1,h2,h3⟩
 ·obtain ⟨z,ac,n,r,e⟩:=hH.ok I.hok
  exact ⟨z,ac,n,r,r.length,e⟩
 ·exact ⟨by rw [h2.length];exact h3,ac,n,h2,h2.length,I.kIn l _ h1⟩
def rExtendR (K:PySem.W.Frag):V->List V->Hp->VK->Prop:=λx vs H Q=>∃ l b xs zs,x=.ref l/\vs=[.ref b]/\H l=some (.lst xs)/\RdK K H b zs/\xs.length+zs.length<=sizeLine/\Q .non (upd H l (.lst (xs++zs)))
theorem E6:MtM X "list.extend" (rExtendR X.K):=by
 intro aa s U H x vs v us Q I rx rv h
 obtain ⟨l,b,xs,zs,rfl,rfl,hH,hB,hz,q⟩:=h
 cases rx
 obtain ⟨u,rfl,ru⟩:=rv.one
 cases ru
 obtain ⟨z,ac,n,r,hl,e⟩:=I.lstM hH
 obtain ⟨z2,bS,n2,r2,dB,e2⟩:=AB I hB
 have iz:ac.toArray.size+bS.toArray.size<=sizeLine:=by rw [size_toArray,size_toArray];omega
 have jV:¬ (!ac.toArray.isEmpty&&listTooLong (ac.toArray.size+bS.toArray.size))=true:=by
  rw [notLongL iz,Bool.and_false]
  exact Bool.false_ne_true
 refine call_meets F.slot_list_extend ⟨_,e,rfl⟩ F.entry_list_extend (F.args_list_extend_2 _ _)
  (AutoSeq1.list_extend_list_list_0 l ac.toArray n b bS.toArray n2 jV (by rw [size_toArray];omega) (by omega)) ⟨e,e2,?_⟩
 refine ⟨.non,_,I.lset (its':=ac++bS) hH e (by simp) (r.append r2) ?_,rfl,q⟩
 rw [length_append]
 omega
theorem uM {i:Nat}{x:Str}{p1 bc aF:Pos} (hv:PE X (.Name x p1) (tVar i)) (ha:ED X B e ga) (hs:swapsWith (.Call (.Attribute (.Name x p1) "append" bc) [e] [] aF) none pos.line X.env=pure false:=by rfl)
  (gy:starEach [e] X.env=(false,eval e X.env)::starEach [] X.env:=by rfl)
  (cV:attributeBase (.Name x p1) "append" X.env (eval (.Name x p1) X.env)=eval (.Name x p1) X.env:=by rfl)
  (ca:((backTo aF (starEach [e] X.env)).all (λx=>!x.1)&&(backToKw aF (keywordEach [] X.env)).all (λx=>x.1.isSome)
   &&decide ([e].length+([]:List Keyword).length+(if ([]:List Keyword).isEmpty then 0 else 1) < 30))=true:=by rfl)
  (cW:(bc.endLine == aF.line)=true:=by rfl) (cb:(backTo aF (starEach [] X.env)).any (·.1)=false:=by rfl) :
  SD X B (.Expr (.Call (.Attribute (.Name x p1) "append" bc) [e] [] aF) pos) (appS i ga) :=
 PS.imp (Ao (Cs PySem.F.plainAttrs_list PySem.F.slot_list_append PySem.F.type_list_append Ey hv (wy ha xW gy) cV ca cW gy cb) hs) λE U H q=>by
  obtain ⟨G,I,Y,f,af,r,e1,k⟩:=q
  obtain ⟨hm,e1⟩:=vT e1
  obtain ⟨d1,ab,e2,e3⟩:=sN e1
  obtain ⟨d2,ah,e4,e5⟩:=sN e3
  cases e5
  obtain ⟨p,xs,h1,h2⟩:=vw hm r
  refine ⟨_,h1,.inl ⟨rfl,xs,SqL.of h2⟩,G,I,Y,d1,ab,r,e2,λv H1 I1 r1 g1 hd=>?_⟩
  obtain ⟨p',bN,ds,es,h3,h4,h5,h6,h7⟩:=yq e4 r1
  have hp:p'=p:=by rw [h1] at h3;cases h3;rfl
  subst hp
  obtain ⟨hl,rfl⟩:=tJ h6
  refine ⟨p',bN,v,rfl,rfl,h4,?_,k U _ I1 (h7 _ (IsA.append h5 (IsA.cons hd IsA.nil))) g1⟩
  rw [← h5.length]
  exact lt_of_lt_of_le hl (u8 (le_refl _))
theorem BG {i:Nat}{x:Str}{p1 bc aF:Pos} (hv:PE X (.Name x p1) (tVar i)) (ha:ED X B e ga) (hs:swapsWith (.Call (.Attribute (.Name x p1) "extend" bc) [e] [] aF) none pos.line X.env=pure false:=by rfl)
  (gy:starEach [e] X.env=(false,eval e X.env)::starEach [] X.env:=by rfl)
  (cV:attributeBase (.Name x p1) "extend" X.env (eval (.Name x p1) X.env)=eval (.Name x p1) X.env:=by rfl)
  (ca:((backTo aF (starEach [e] X.env)).all (λx=>!x.1)&&(backToKw aF (keywordEach [] X.env)).all (λx=>x.1.isSome)
   &&decide ([e].length+([]:List Keyword).length+(if ([]:List Keyword).isEmpty then 0 else 1) < 30))=true:=by rfl)
  (cW:(bc.endLine == aF.line)=true:=by rfl) (cb:(backTo aF (starEach [] X.env)).any (·.1)=false:=by rfl) :
  SD X B (.Expr (.Call (.Attribute (.Name x p1) "extend" bc) [e] [] aF) pos) (extS i ga) :=
 PS.imp (Ao (Cs PySem.F.plainAttrs_list PySem.F.slot_list_extend PySem.F.type_list_extend E6 hv (wy ha xW gy) cV ca cW gy cb) hs) λE U H q=>by
  obtain ⟨G,I,Y,f,af,r,e1,k⟩:=q
  obtain ⟨hm,e1⟩:=vT e1
  obtain ⟨d1,ab,e2,e3⟩:=sN e1
  obtain ⟨d2,ah,e4,e5⟩:=sN e3
  cases e5
  obtain ⟨p,xs,h1,h2⟩:=vw hm r
  refine ⟨_,h1,.inl ⟨rfl,xs,SqL.of h2⟩,G,I,Y,d1,ab,r,e2,λv H1 I1 r1 g1 hd=>?_⟩
  obtain ⟨p',bN,ds,es,h3,h4,h5,h6,h7⟩:=yq e4 r1
  have hp:p'=p:=by rw [h1] at h3;cases h3;rfl
  subst hp
  cases d1 with
  | lst zs =>
   obtain ⟨a,ys,rfl,i1,i2⟩:=tm hd
   obtain ⟨hl,rfl⟩:=tJ h6
   refine ⟨p',a,bN,ys,rfl,rfl,h4,Same.rdK r1.iH i1,?_,k U _ I1 (h7 _ (IsA.append h5 i2)) g1⟩
   rw [← h5.length,← i2.length]
   exact u8 hl
  | _=>cases h6
noncomputable def asI (d:D):Option Int:=match d with
 | .int i=>some i
 | _=>none
theorem Ce {d:D}{i:Int} (h:asI d=some i):d=.int i:=by
 cases d<;>simp [asI] at h
 rw [h]
noncomputable def stF (k:Int) (d:D) (ds:List D):Option (List D):=(ixN ds.length k).map λj=>ds.set j d
noncomputable def stS (i:Nat) (gi gv:M D):M Fl:=bnd gv λd=>mutS i (bnd gi λn=>bnd (lft (asI n)) λk=>bnd (wr i (stF k d)) λ_=>ret .nx)
theorem wY {i:Nat}{x:Str}{p1 p2:Pos}{ie:Expr}{gi:M D} (hv:PE X (.Name x p1) (tVar i)) (hi:ED X B ie gi) (he:ED X B e ga)
  (ha:∀ v,assign (.Subscript (.Name x p1) ie p2) X.env v=(do
   let ov ← holding [v] (eval (.Name x p1) X.env)
   let iv ← holding [v,ov] (eval ie X.env)
   standAt p2
   holding [v,ov,iv] (setItem ov iv v)
   release [v,ov,iv] []):=by intro _;rfl)
  (hs:swapsWithSole [.Subscript (.Name x p1) ie p2] e pos.line X.env=pure false:=by rfl) (hw:swappedStores [.Subscript (.Name x p1) ie p2] e X.env=pure none:=by rfl)
  (h1:(assignEach [.Subscript (.Name x p1) ie p2] X.env).map (·.2)=[assign (.Subscript (.Name x p1) ie p2) X.env]:=by rfl) :
  SD X B (.Assign [.Subscript (.Name x p1) ie p2] e pos) (stS i gi ga):=PS.imp (CN he (HU hv hi IU ha) hs hw h1) λE U H q=>by
 obtain ⟨G,I,Y,f,af,r,e1,k⟩:=q
 obtain ⟨d,ab,e2,e3⟩:=sN e1
 obtain ⟨hm,e3⟩:=vT e3
 obtain ⟨n,ah,e4,e5⟩:=sN e3
 obtain ⟨z,aR,e6,e7⟩:=sN e5
 obtain ⟨e8,rfl⟩:=tx e6
 obtain ⟨u,aP,f1,f2⟩:=sN e7
 cases f2
 have:=Ce e8
 subst this
 refine ⟨G,I,Y,d,ab,r,e2,λv H1 I1 r1 g1 hd=>?_⟩
 obtain ⟨p,xs,h1,h2⟩:=vw hm r1
 refine ⟨_,h1,G,I1,ab,_,_,r1,e4,λw H2 I2 r2 g2 hw=>?_⟩
 obtain ⟨p',bN,ds,es,h3,h4,h5,h6,h7⟩:=yq f1 r2
 have hp:p'=p:=by rw [h1] at h3;cases h3;rfl
 subst hp
 unfold stF at h6
 cases hj:ixN ds.length z with
 | none=>rw [hj] at h6;cases h6
 | some j =>
  rw [hj] at h6
  cases h6
  exact ⟨p',bN,z,j,rfl,sV hw,h4,by rw [← h5.length];exact hj,k U _ I2 (h7 _ (IsA.set (hd.mono g2.up) j h5)) (g1.trans g2)⟩
def Yields (K:PySem.W.Frag) (I:Hp) (ds:List D) (J:It):Prop:=∀ (i:Nat) (H1:Hp),Same I H1 →
 (∀ d,ds[i]?=some d->J.go i H1/\∀ x H2,J.yld i H1 x H2->(H2=H1/\Is K I d x)\/(∃ p es xs,d=.tup es/\x=.ref p/\H1 p=none/\H2=upd H1 p (.tup xs)/\IsA K I es xs))/\(ds.length<=i->J.stop i H1)
noncomputable def tI (K:PySem.W.Frag) (B:BB) (g:M (List D)):TI:=λU H R=>∃ G I Y ds af,Rep K B G I H U Y/\g Y=some (ds,af)/\∀ J H' I',Rep K B G I' H' U af->Grow G I I'->Yields K I' ds J->R J H'
def ITD (X:Cx) (B:BB) (tg iter:Expr) (g:M (List D)):Prop:=PI X tg iter (tI X.K B g)
theorem EJ {tg l:Expr}{tl:TE} (hl:PE X l tl):PI X tg l (λU H R=>tl U H λx H1=>(∃ a,x=.ref a/\(∃ xs,SqL X.K H1 a xs)/\R (Itl X.K a) H1)\/(∃ a,x=.ref a/\(∃ xs,SqT X.K H1 a xs)/\R (Itt X.K a) H1)):=by
 intro aa s U H R I h
 refine thn (hl aa s U H _ I h) λv s1 ⟨x,H1,I1,r1,q1⟩=>?_
 rcases q1 with ⟨a,e,⟨xs,hq⟩,q⟩ | ⟨a,e,⟨xs,hq⟩,q⟩
 ·subst e
  cases r1
  obtain ⟨ac,rv,p,hz⟩:=I1.list hq
  refine wpAny_pyIter_list p.isList ?_
  refine ⟨s1.heap.objs.size,[s1.heap.objs.size],_,_,H1,rfl,I1.kept (t':=s1.toks) λb o e=>get?_push_of_some _ e,FI a _,⟨_,get?_push_size _ rfl,rfl,rfl⟩,λb hb=>?_,q⟩
  have e:b=s1.heap.objs.size:=by simpa using hb
  subst e
  exact I1.fpOk (le_refl _) (I1.hok.fresh (le_refl _))
 ·subst e
  cases r1
  obtain ⟨ac,rv,p,hz⟩:=I1.tuple hq
  refine wpAny_pyIter_tuple (show s1.heap.IsTuple a ac.toArray from p) ?_
  refine ⟨s1.heap.objs.size,[s1.heap.objs.size],_,_,H1,rfl,I1.kept (t':=s1.toks) λb o e=>get?_push_of_some _ e,Lv a _,⟨_,get?_push_size _ rfl,rfl,rfl⟩,λb hb=>?_,q⟩
  have e:b=s1.heap.objs.size:=by simpa using hb
  subst e
  exact I1.fpOk (le_refl _) (I1.hok.fresh (le_refl _))
noncomputable def seqI (d:D):Option (List D):=match d with
 | .lst ds=>some ds
 | .tup ds=>some ds
 | _=>none
def itS (g:M D):M (List D):=bnd g λd=>lft (seqI d)
theorem tv {tg:Expr} (ha:ED X B a ga):ITD X B tg a (itS ga):=PI.imp (EJ ha) λU H R q=>by
 obtain ⟨G,I,Y,ds,af,r,e1,k⟩:=q
 obtain ⟨d,ab,e2,e3⟩:=sN e1
 obtain ⟨e4,rfl⟩:=tx e3
 refine ⟨G,I,Y,d,_,r,e2,λv H1 I1 r1 g1 hd=>?_⟩
 cases d with
 | lst es =>
  cases e4
  obtain ⟨l,xs,rfl,h1,h2⟩:=tm hd
  refine .inl ⟨l,rfl,⟨xs,(Same.rdK r1.iH h1).sq⟩,k _ _ _ r1 g1 λi H2 s2=>⟨λd hd=>?_,λhi=>⟨xs,(Same.rdK s2 h1).sq,by rw [← h2.length];exact hi⟩⟩⟩
  obtain ⟨x,e5,e6⟩:=h2.get hd
  refine ⟨⟨xs,x,(Same.rdK s2 h1).sq,e5⟩,λy H3 hy=>.inl ⟨hy.1,?_⟩⟩
  have:=hy.2 xs ((Same.rdK s2 h1).sq)
  rw [e5] at this;cases this
  exact e6
 | tup es =>
  cases e4
  obtain ⟨l,xs,rfl,h1,h2⟩:=sZ hd
  refine .inr ⟨l,rfl,⟨xs,Same.sqT r1.iH h1⟩,k _ _ _ r1 g1 λi H2 s2=>⟨λd hd=>?_,λhi=>⟨xs,Same.sqT s2 h1,by rw [← h2.length];exact hi⟩⟩⟩
  obtain ⟨x,e5,e6⟩:=h2.get hd
  refine ⟨⟨xs,x,Same.sqT s2 h1,e5⟩,λy H3 hy=>.inl ⟨hy.1,?_⟩⟩
  have:=hy.2 xs (Same.sqT s2 h1)
  rw [e5] at this;cases this
  exact e6
 | _=>cases e4
noncomputable def rngD (lo:Int) (n:Nat):List D:=(range n).map λ(k:Nat)=>D.int (lo+(k:Int))
theorem CB {K:PySem.W.Frag}{I:Hp} (lo:Int) (n:Nat):Yields K I (rngD lo n) (Itr lo n):=λi H1 s1=>by
 refine ⟨λd hd=>?_,λhi=>?_⟩
 ·unfold rngD at hd
  rw [getElem?_map] at hd
  cases e:(range n)[i]? with
  | none=>rw [e] at hd;cases hd
  | some j =>
   rw [e] at hd
   cases hd
   obtain ⟨h1,h2⟩:=List.getElem?_eq_some_iff.mp e
   rw [getElem_range] at h2
   rw [length_range] at h1
   subst h2
   refine ⟨h1,λx H2 hy=>.inl ⟨hy.1,?_⟩⟩
   rw [hy.2]
   exact Is.int _
 ·unfold rngD at hi
  rw [length_map,length_range] at hi
  exact hi
noncomputable def rngI1 (ds:List D):Option (List D):=match ds with
 | [.int j]=>if -1000000<=j/\j<=1000000 then some (rngD 0 j.toNat) else none
 | _=>none
noncomputable def rngI2 (ds:List D):Option (List D):=match ds with
 | [.int i,.int j]=>if (-1000000<=i/\i<=1000000)/\-1000000<=j/\j<=1000000 then some (rngD i (j - i).toNat) else none
 | _=>none
theorem A4 {ds es:List D} (h:rngI1 ds=some es):∃ j:Int,ds=[.int j]/\(-1000000<=j/\j<=1000000)/\es=rngD 0 j.toNat:=by
 unfold rngI1 at h
 split at h
 ·obtain ⟨h1,h2⟩:=tJ h
  exact ⟨_,rfl,h1,h2⟩
 ·cases h
theorem Ig {ds es:List D} (h:rngI2 ds=some es):∃ i j:Int,ds=[.int i,.int j]/\((-1000000<=i/\i<=1000000)/\-1000000<=j/\j<=1000000)/\es=rngD i (j - i).toNat:=by
 unfold rngI2 at h
 split at h
 ·obtain ⟨h1,h2⟩:=tJ h
  exact ⟨_,_,rfl,h1,h2⟩
 ·cases h
theorem wj {tg:Expr}{p:Pos}{t:M (List D)} (hg:Gl X "range") (hm:X.mg "range"=none) (ha:AD X B [a] t) (hs:starEach [a] X.env=[(false,eval a X.env)]:=by rfl):ITD X B tg (.Call (.Name "range" p) [a] [] pos) (fn1 rngI1 t) :=
 PI.imp (Kk hg hm ha hs) λU H R q=>by
  obtain ⟨G,I,Y,ds,af,r,e1,k⟩:=q
  obtain ⟨d,ab,e2,e3⟩:=sN e1
  obtain ⟨e4,rfl⟩:=tx e3
  obtain ⟨j,rfl,⟨h1,h2⟩,rfl⟩:=A4 e4
  refine ⟨G,I,Y,_,_,r,e2,λvs H1 I1 r1 g1 hd=>?_⟩
  obtain ⟨x,rfl,hx⟩:=hd.one
  exact ⟨j,by rw [sV hx],by omega,by omega,k _ _ _ r1 g1 (CB _ _)⟩
theorem FB {tg:Expr}{p:Pos}{t:M (List D)} (hg:Gl X "range") (hm:X.mg "range"=none) (ha:AD X B [a,b] t) (hs:starEach [a,b] X.env=[(false,eval a X.env),(false,eval b X.env)]:=by rfl) (b9:starEach [b] X.env=[(false,eval b X.env)]:=by rfl) :
  ITD X B tg (.Call (.Name "range" p) [a,b] [] pos) (fn1 rngI2 t) :=
 PI.imp (Mm hg hm ha hs b9) λU H R q=>by
  obtain ⟨G,I,Y,ds,af,r,e1,k⟩:=q
  obtain ⟨d,ab,e2,e3⟩:=sN e1
  obtain ⟨e4,rfl⟩:=tx e3
  obtain ⟨i,j,rfl,h1,rfl⟩:=Ig e4
  refine ⟨G,I,Y,_,_,r,e2,λvs H1 I1 r1 g1 hd=>?_⟩
  obtain ⟨x,y,rfl,hx,hy⟩:=hd.two
  exact ⟨i,j,by rw [sV hx,sV hy],by omega,k _ _ _ r1 g1 (CB _ _)⟩
noncomputable def forM (aB:D->M Unit) (body:M Fl):List D->M Fl
 | []=>ret .nx
 | d::ds=>bnd (aB d) λ_=>bnd body λf=>match f with
  | .nx=>forM aB body ds
  | .ct=>forM aB body ds
  | .bk=>ret .nx
  | .rt r=>ret (.rt r)
noncomputable def forS (it:M (List D)) (aB:D->M Unit) (body:M Fl):M Fl:=bnd it λds=>forM aB body ds
theorem KJ {m:Nat}{iter tg:Expr}{body:List Stmt}{it:M (List D)}{aB:D->M Unit} (hp:PassesOwn (model X.prog X.w) X.A X.env X.xe) (hc:X.calm=true) (hi:ITD X B tg iter it) (hg:GD X B m tg aB) (hb:SDs X B body g)
  (hs:∀ x,foldedSetIterable iter X.env x=pure x:=by intro _;rfl):SD X B (.For tg iter body [] pos) (forS it aB g):=PS.imp (Go hp hc hi hg hb hs) λE U H q=>by
 obtain ⟨G,I,Y,f,af,r,e1,k⟩:=q
 obtain ⟨ds,ab,e2,e3⟩:=sN e1
 refine ⟨G,I,Y,ds,ab,r,e2,λJ H1 I1 r1 g1 y=>?_⟩
 refine ⟨λi m U H=>∃ I2 ah,Rep X.K B G I2 H U ah/\Grow G I1 I2/\forM aB g (ds.drop i) ah=some (f,af)/\i<=ds.length/\m=ds.length - i,⟨ds.length,I1,ab,r1,Grow.refl _ _,by simpa using e3,zero_le _,rfl⟩,?_⟩
 rintro i m' aW H2 ⟨I2,ah,r2,g2,e4,ba,rfl⟩
 obtain ⟨yg,ys⟩:=y i H2 (g2.up.trans r2.iH)
 by_cases bE:i < ds.length
 ·have hd:ds.drop i=ds[i]::ds.drop (i+1):=drop_eq_getElem_cons bE
  obtain ⟨go,yld⟩:=yg ds[i] (getElem?_eq_getElem bE)
  rw [hd] at e4
  obtain ⟨u,aR,e5,e6⟩:=sN e4
  obtain ⟨fl,aP,e7,e8⟩:=sN e6
  refine .inr ⟨go,λaj H'=>∃ I3,Rep X.K B G I3 H' aj aP/\Grow G I1 I3/\(fl=.nx\/fl=.ct),λaj H' ⟨I3,r3,g3,hf⟩=>⟨ds.length - (i+1),by omega,I3,aP,r3,g3,?_,bE,rfl⟩,λx H3 hy=>?_⟩
  ·rcases hf with rfl | rfl<;>exact e8
  ·have lS:∀ I3,Rep X.K B G I3 H3 aW ah->Grow G I2 I3->Is X.K I3 ds[i] x->tGD X.K B m aB x aW H3 λaW H2=>tS X.K B g { E with nx:=λaj H'=>∃ I3,Rep X.K B G I3 H' aj aP/\Grow G I1 I3/\(fl=.nx\/fl=.ct),ct:=λaj H'=>∃ I3,Rep X.K B G I3 H' aj aP/\Grow G I1 I3/\(fl=.nx\/fl=.ct),bk:=E.nx } aW H2:=by
    intro I3 r3 g3 hx
    refine ⟨G,I3,ah,ds[i],aR,r3,hx,e5,λlU H4 I4 r4 g4 _=>⟨G,I4,aR,fl,aP,r4,e7,λde H5 I5 r5 g5=>?_⟩⟩
    have gg:Grow G I1 I5:=g2.trans (g3.trans (g4.trans g5))
    cases fl with
    | nx=>exact ⟨I5,r5,gg,.inl rfl⟩
    | ct=>exact ⟨I5,r5,gg,.inr rfl⟩
    | bk=>cases e8;exact k de H5 I5 r5 (g1.trans gg)
    | rt v=>cases e8;exact k de H5 I5 r5 (g1.trans gg)
   rcases yld x H3 hy with ⟨rfl,hx⟩ | ⟨p,es,xs,dz,rfl,eQ,rfl,hx⟩
   ·exact lS I2 r2 (Grow.refl _ _) (hx.mono g2.up)
   ·refine lS _ (r2.alloc eQ _) (r2.growAlloc eQ _) ?_
    rw [dz]
    exact Is.tup (SqT.of tz) ((hx.mono g2.up).mono (tY (r2.iFree eQ) _))
 ·have bQ:i=ds.length:=by omega
  subst bQ
  rw [List.drop_length] at e4
  cases e4
  exact .inl ⟨ys (le_refl _),k aW H2 I2 r2 (g1.trans g2)⟩
end
noncomputable def fin:List R->Gm->Option (List R)
 | [],_=>some []
 | .val d::rs,_::Y=>match fin rs Y with
  | some l=>some (.val d::l)
  | none=>none
 | .bor _::rs,some (.bor ds)::Y=>match fin rs Y with
  | some l=>some (.bor ds::l)
  | none=>none
 | _,_=>none
noncomputable def flR:Fl->Option R
 | .rt r=>some r
 | .nx=>some (.val .non)
 | _=>none
noncomputable def fnD1 (n:Nat) (body:M Fl) (rs:List R):Option (R×List R) :=
 match body (rs.map some++replicate (n - rs.length) none) with
 | some (f,af)=>match flR f with
  | some r=>match fin rs af with
   | some l=>some (r,l)
   | none=>none
  | none=>none
 | none=>none
noncomputable def fnD (n ar:Nat) (body:M Fl) (rs:List R):Option (R×List R):=if rs.length=ar then fnD1 n body rs else none
def noOwn:R->Bool
 | .own _=>false
 | _=>true
def vB (vs:List V):BB:=λi=>(vs.map some)[i]?
noncomputable def spD (K:PySem.W.Frag) (g:List R->Option (R×List R)):Sp:=λvs H Q _=>∃ (G I:Hp) (rs:List R) (r:R) (aY:List R),Rep K (vB vs) G I H (vs.map some) (rs.map some)/\rs.all noOwn=true/\g rs=some (r,aY) ∧
 ∀ v H' I',Rep K (vB vs) G I' H' (vs.map some) (aY.map some)->Grow G I I'->ResOk K G I' H' (vs.map some) (aY.map some) r v->Q v H'
theorem wR:∀ {rs l:List R}{Y:Gm},fin rs Y=some l->l.length=rs.length/\∀ (i:Nat) (r:R),l[i]?=some r->(∃ d,r=.val d/\rs[i]?=some (.val d))\/(∃ ds,r=.bor ds/\Y[i]?=some (some (.bor ds)))
 | [],l,Y,h=>by
  rw [fin] at h;cases h
  exact ⟨rfl,λi r e=>by simp at e⟩
 | .val d::rs,l,[],h=>by simp [fin] at h
 | .bor d::rs,l,[],h=>by simp [fin] at h
 | .own d::rs,l,Y,h=>by cases Y<;>simp [fin] at h
 | .fro d::rs,l,Y,h=>by cases Y<;>simp [fin] at h
 | .dic d::rs,l,Y,h=>by cases Y<;>simp [fin] at h
 | .val d::rs,l,o::Y,h=>by
  rw [fin] at h
  cases e:fin rs Y with
  | none=>rw [e] at h;cases h
  | some l' =>
   rw [e] at h;cases h
   obtain ⟨h1,h2⟩:=wR e
   refine ⟨by simp [h1],λi r er=>?_⟩
   cases i with
   | zero=>simp at er;subst er;exact .inl ⟨d,rfl,rfl⟩
   | succ i =>
    rcases h2 i r (by simpa using er) with ⟨d',e1,e2⟩ | ⟨ds,e1,e2⟩
    ·exact .inl ⟨d',e1,by simpa using e2⟩
    ·exact .inr ⟨ds,e1,by simpa using e2⟩
 | .bor d::rs,l,none::Y,h=>by simp [fin] at h
 | .bor d::rs,l,some (.val x)::Y,h=>by simp [fin] at h
 | .bor d::rs,l,some (.own x)::Y,h=>by simp [fin] at h
 | .bor d::rs,l,some (.fro x)::Y,h=>by simp [fin] at h
 | .bor d::rs,l,some (.dic x)::Y,h=>by simp [fin] at h
 | .bor d::rs,l,some (.bor x)::Y,h=>by
  rw [fin] at h
  cases e:fin rs Y with
  | none=>rw [e] at h;cases h
  | some l' =>
   rw [e] at h;cases h
   obtain ⟨h1,h2⟩:=wR e
   refine ⟨by simp [h1],λi r er=>?_⟩
   cases i with
   | zero=>simp at er;subst er;exact .inr ⟨x,rfl,rfl⟩
   | succ i =>
    rcases h2 i r (by simpa using er) with ⟨d',e1,e2⟩ | ⟨ds,e1,e2⟩
    ·exact .inl ⟨d',e1,by simpa using e2⟩
    ·exact .inr ⟨ds,e1,by simpa using e2⟩
theorem getMap {α Z:Type}{f:α->Z}{l:List α}{i:Nat}{b:Z} (h:(l.map f)[i]?=some b):∃ a,l[i]?=some a/\b=f a:=by
 rw [getElem?_map] at h
 cases e:l[i]? with
 | none=>rw [e] at h;cases h
 | some a=>rw [e] at h;exact ⟨a,rfl,(Option.some.inj h).symm⟩
theorem uY {α:Type}{l:List α}{n i:Nat}{a:α} (h:(l.map some++replicate n (none:Option α))[i]?=some (some a)):l[i]?=some a:=by
 by_cases hi:i < (l.map some).length
 ·rw [getElem?_append_left hi] at h
  obtain ⟨b,e1,e2⟩:=getMap h
  cases e2;exact e1
 ·rw [getElem?_append_right (by omega),List.getElem?_replicate] at h
  split at h<;>cases h
section
variable {P:Program}{w:World}{K:PySem.W.Frag}{mg:Str->Option Value}{base:Heap}
theorem tu {x qual:Str}{st:Stmt}{f:Addr}{fd:FuncData}{N ps:List Str}{k:Nat} (F:Fun K x qual st f fd) (S:FnScope N ps (defScope st)) (g:M Fl)
  (hb:∀ (au:Value) (A:Around) (outer:List Env) (s:Shared) (H:Hp) (E:XK) (B:BB),Room k (A.deeper (envOfC qual (defScope st) s.heap.objs.size f au)) →
   SDs (cxOf CX0 P w K mg base N qual (defScope st) f au A outer s H E).nox B (defBody st) g):FnOk P w K mg base CX0 (k+1) f fd ps (spD K (fnD N.length ps.length g)):=by
 refine F.ok S (λvs H Q E h=>?_) (λau A outer s H vs Q E hr h=>?_)
 ·obtain ⟨_,_,rs,_,_,h1,_,h2,_⟩:=h
  unfold fnD at h2
  by_cases hc:rs.length=ps.length
  ·rw [← hc];simpa using h1.len
  ·rw [if_neg hc] at h2;cases h2
 ·obtain ⟨G,I,rs,r,aY,h2,h3,h4,h5⟩:=h
  have hl:vs.length=rs.length:=by simpa using h2.len
  refine ⟨_,hb au A outer s H E (λi=>(L2.start N vs)[i]?) hr,?_⟩
  unfold fnD at h4
  have hc:rs.length=ps.length:=by
   by_cases hc:rs.length=ps.length
   ·exact hc
   ·rw [if_neg hc] at h4;cases h4
  rw [if_pos hc] at h4
  unfold fnD1 at h4
  cases e1:g (rs.map some++replicate (N.length - rs.length) none) with
  | none=>rw [e1] at h4;cases h4
  | some q =>
   obtain ⟨fl,af⟩:=q
   rw [e1] at h4
   dsimp only at h4
   cases e2:flR fl with
   | none=>rw [e2] at h4;cases h4
   | some rr =>
    rw [e2] at h4
    dsimp only at h4
    cases e3:fin rs af with
    | none=>rw [e3] at h4;cases h4
    | some l =>
     rw [e3] at h4
     obtain ⟨rfl,rfl⟩:rr=r/\l=aY:=by cases h4;exact ⟨rfl,rfl⟩
     have dC:∀ {i:Nat}{v:V},vs[i]?=some v->(L2.start N vs)[i]?=some (some v):=λ{i v} e=>by
      unfold L2.start
      rw [getElem?_append_left (by rw [length_map];exact (List.getElem?_eq_some_iff.mp e).1),getElem?_map,e];rfl
     have eR:∀ {i:Nat}{v:V},(L2.start N vs)[i]?=some (some v)->vs[i]?=some v:=λ{i v} e=>uY e
     have gz:Rep K (λi=>(L2.start N vs)[i]?) G I H (L2.start N vs) (rs.map some++replicate (N.length - rs.length) none):={
      iH:=h2.iH,gH:=h2.gH
      len:=by unfold L2.start;rw [length_append,length_append,length_map,length_map,length_replicate,length_replicate,hl]
      slot:=λi q e=>by
       have e':=uY e
       obtain ⟨v,e4,e5⟩:=h2.slot i q (by rw [getElem?_map,e'];rfl)
       obtain ⟨v',e6,e7⟩:=getMap e4
       cases e7
       exact ⟨v,dC e6,e5⟩
      dist:=λi j q q' v e e' m m' s1 s2=>h2.dist i j q q' v (by rw [getElem?_map,uY e];rfl) (by rw [getElem?_map,uY e'];rfl) m m' (by rw [getElem?_map,eR s1];rfl) (by rw [getElem?_map,eR s2];rfl)
      bor:=λi ds e=>rfl }
     obtain ⟨f1,f2⟩:=wR e3
     -- behind the body
     have cX:∀ {aj:L2.St}{H' I':Hp},Rep K (λi=>(L2.start N vs)[i]?) G I' H' aj af->Grow G I I'->Rep K (vB vs) G I' H' (vs.map some) (l.map some):=λ{aj H' I'} r' g'=>{
      iH:=r'.iH,gH:=r'.gH
      len:=by rw [length_map,length_map,f1,hl]
      slot:=λi q e=>by
       obtain ⟨q',e4,e5⟩:=getMap e
       cases e5
       rcases f2 i q e4 with ⟨d,rfl,e6⟩ | ⟨ds,rfl,e6⟩
       ·obtain ⟨v,e7,e8⟩:=h2.slot i (.val d) (by rw [getElem?_map,e6];rfl)
        exact ⟨v,e7,Is.mono g'.up e8⟩
       ·obtain ⟨v,e7,e8⟩:=r'.slot i _ e6
        have e9:=r'.bor i ds e6
        rw [e7] at e9
        exact ⟨v,by rw [getElem?_map,eR e9.symm];rfl,e8⟩
      dist:=λi j q q' v e e' m m' s1 s2=>by
       obtain ⟨_,e4,e5⟩:=getMap e
       cases e5
       obtain ⟨_,e6,e7⟩:=getMap e'
       cases e7
       rcases f2 i q e4 with ⟨d,rfl,_⟩ | ⟨ds,rfl,e8⟩
       ·cases m
       rcases f2 j q' e6 with ⟨d,rfl,_⟩ | ⟨dD,rfl,e9⟩
       ·cases m'
       obtain ⟨v1,a1,_⟩:=getMap s1
       obtain ⟨v2,a2,a3⟩:=getMap s2
       have b1:=r'.bor i ds e8
       have b2:=r'.bor j dD e9
       rename_i b3
       cases b3
       cases a3
       rw [dC a1] at b1
       rw [dC a2] at b2
       exact r'.dist i j _ _ v e8 e9 rfl rfl b1 b2
      bor:=λi ds e=>rfl }
     have ap:∀ {aj:L2.St}{H' I':Hp}{p:Addr},Rep K (λi=>(L2.start N vs)[i]?) G I' H' aj af->Apart aj af p->Apart (vs.map some) (l.map some) p:=λ{aj H' I' p} r' a i q e m z=>by
      obtain ⟨_,e4,e5⟩:=getMap e
      cases e5
      rcases f2 i q e4 with ⟨d,rfl,_⟩ | ⟨ds,rfl,e8⟩
      ·cases m
      obtain ⟨v1,a1,a2⟩:=getMap z
      cases a2
      exact a i _ e8 rfl ((r'.bor i ds e8).trans (dC a1))
     refine ⟨G,I,_,fl,af,gz,e1,λaj H' I' r' g'=>?_⟩
     cases fl with
     | nx=>cases e2;exact h5 _ H' I' (cX r' g') g' (show Is K I' D.non V.non from Is.non)
     | bk=>cases e2
     | ct=>cases e2
     | rt r0 =>
      cases e2
      intro v hv
      refine h5 v H' I' (cX r' g') g' ?_
      cases rr with
      | val d=>exact hv
      | bor d=>exact hv
      | fro d=>exact hv
      | dic d =>
       obtain ⟨p,xs,b1,b2,b3,b4,b5,b6⟩:=hv
       exact ⟨p,xs,b1,b2,b3,b4,ap r' b5,b6⟩
      | own d =>
       obtain ⟨p,xs,b1,b2,b3,b4,b5,b6⟩:=hv
       exact ⟨p,xs,b1,b2,b3,b4,ap r' b5,b6⟩
end
mutual
noncomputable def noL:D->Bool
 | .tup ds=>noLA ds
 | .lst _=>false
 | _=>true
noncomputable def noLA:List D->Bool
 | []=>true
 | d::ds=>noL d&&noLA ds
end
noncomputable def tupOf (I0 I:Hp):Hp:=λb=>match I0 b with
 | some o=>some o
 | none=>match I b with
  | some (.lst _)=>none
  | o=>o
theorem Dm {I0 I:Hp}:Same I0 (tupOf I0 I):=λb o e=>by unfold tupOf;rw [e]
theorem Ad {I0 I:Hp}{b:Addr}{o:HO} (h:tupOf I0 I b=some o):I0 b=some o\/(I0 b=none/\I b=some o/\∀ xs,o≠.lst xs):=by
 unfold tupOf at h
 cases e:I0 b with
 | some o'=>rw [e] at h;cases h;exact .inl rfl
 | none =>
  rw [e] at h
  cases e1:I b with
  | none=>rw [e1] at h;cases h
  | some o' =>
   rw [e1] at h
   cases o'<;>first | (cases h;exact .inr ⟨rfl,rfl,λxs z=>by cases z⟩) | cases h
theorem Be {I0 I:Hp} (s:Same I0 I){b:Addr}{o:HO} (h:I b=some o) (n:∀ xs,o≠.lst xs):tupOf I0 I b=some o:=by
 unfold tupOf
 cases e:I0 b with
 | some o'=>rw [s b o' e] at h;exact h
 | none =>
  simp only [h]
  split
  ·rename_i z
   cases z
   exact absurd rfl (n _)
  ·rfl
mutual
theorem KQ {K:PySem.W.Frag}{I0 I:Hp} (s:Same I0 I):∀ (d:D) (v:V),noL d=true->Is K I d v->Is K (tupOf I0 I) d v
 | .non,_,_,h=>by rw [Is] at h ⊢;exact h
 | .bl _,_,_,h=>by rw [Is] at h ⊢;exact h
 | .int _,_,_,h=>by rw [Is] at h ⊢;exact h
 | .str _,_,_,h=>by rw [Is] at h ⊢;exact h
 | .lst _,_,n,_=>by simp [noL] at n
 | .tup ds,v,n,h=>by
  rw [noL] at n
  obtain ⟨a,xs,rfl,h1,h2⟩:=sZ h
  refine Is.tup ?_ (yJ s ds xs n h2)
  rcases h1 with (h1 | ⟨o,h1⟩) | h1
  ·exact .inl (.inl (Be s h1 λxs z=>by cases z))
  ·exact .inl (.inr ⟨o,Be s h1 λxs z=>by cases z⟩)
  ·exact .inr h1
theorem yJ {K:PySem.W.Frag}{I0 I:Hp} (s:Same I0 I):∀ (ds:List D) (xs:List V),noLA ds=true->IsA K I ds xs->IsA K (tupOf I0 I) ds xs
 | [],xs,_,h=>by rw [h.nil_inv];exact IsA.nil
 | d::ds,xs,n,h=>by
  rw [noLA,and_eq_true] at n
  obtain ⟨x,r,rfl,h1,h2⟩:=h.cons_inv
  exact IsA.cons (KQ s d x n.1 h1) (yJ s ds r n.2 h2)
end
section
variable {X:Cx}{B:BB}{e:Expr}{es:List Expr}{pos p:Pos}{x:Str}{k:Nat}{f:Addr}{fd:FuncData}{ps:List Str}{g:List R->Option (R×List R)}{t:M (List D)}
noncomputable def cvF (g:List R->Option (R×List R)) (ds:List D):Option D:=match g (ds.map .val) with
 | some (.val d,_)=>some d
 | some (.fro d,_)=>some (.lst d)
 | _=>none
noncomputable def coF (g:List R->Option (R×List R)) (ds:List D):Option (List D):=match g (ds.map .val) with
 | some (.own d,_)=>some d
 | some (.fro d,_)=>if noLA d=true then some d else none
 | _=>none
theorem v5 {K:PySem.W.Frag}{G I H:Hp}{U:L2.St}{Y:Gm}{ds:List D}{vs:List V} (r:Rep K B G I H U Y) (h:IsA K I ds vs):Rep K (vB vs) H I H (vs.map some) ((ds.map R.val).map some) where
 iH:=r.iH
 gH:=Same.refl _
 len:=by rw [length_map,length_map,length_map,h.length]
 slot:=λi q e=>by
  obtain ⟨_,e1,e2⟩:=getMap e
  cases e2
  obtain ⟨d,e3,rfl⟩:=getMap e1
  obtain ⟨v,e4,e5⟩:=h.get e3
  exact ⟨v,by rw [getElem?_map,e4];rfl,e5⟩
 dist:=λi j q q' v e e' m=>by
  obtain ⟨_,e1,e2⟩:=getMap e
  cases e2
  obtain ⟨d,e3,rfl⟩:=getMap e1
  cases m
 bor:=λi ds e=>rfl
theorem vX (ds:List D):(ds.map R.val).all noOwn=true:=by
 induction ds with
 | nil=>rfl
 | cons d r ih=>rw [map_cons,all_cons,ih];rfl
theorem zo {K:PySem.W.Frag}{B':BB}{G I I' H H':Hp}{U aj:L2.St}{Y af:Gm} (r:Rep K B G I H U Y) (r':Rep K B' H I' H' aj af) (g':Grow H I I'):Rep K B G I' H' U Y/\Grow G I I' :=
 ⟨r.ext g'.up r'.gH r'.iH g'.new,g'.up,λb o e=>(g'.new b o e).imp (λz=>z) λz=>r.gFree z⟩
theorem t_cv {K:PySem.W.Frag}{E:XK}:∀ U H Q,tD K B (fn1 (cvF g) t) U H Q->tCall (spD K g) [] E (tAD K B t) U H Q:=λU H Q q=>by
 obtain ⟨G,I,Y,d,af,r,e1,kk⟩:=q
 obtain ⟨ds,ab,e2,e3⟩:=sN e1
 obtain ⟨e4,rfl⟩:=tx e3
 refine ⟨G,I,Y,ds,_,r,e2,λvs H1 I1 r1 g1 h1=>?_⟩
 show spD K g (vs++[]) H1 Q E
 rw [append_nil]
 unfold cvF at e4
 cases e5:g (ds.map .val) with
 | none=>rw [e5] at e4;cases e4
 | some q =>
  obtain ⟨rr,aY⟩:=q
  rw [e5] at e4
  cases rr with
  | val d' =>
   cases e4
   refine ⟨H1,I1,ds.map .val,.val d,aY,v5 r1 h1,vX ds,e5,λv H' I' r' g' hv=>?_⟩
   obtain ⟨r2,g2⟩:=zo r1 r' g'
   exact kk v H' I' r2 (g1.trans g2) hv
  | fro d' =>
   cases e4
   refine ⟨H1,I1,ds.map .val,.fro d',aY,v5 r1 h1,vX ds,e5,λv H' I' r' g' hv=>?_⟩
   obtain ⟨r2,g2⟩:=zo r1 r' g'
   obtain ⟨p,xs,rfl,f1,_,f3⟩:=hv
   exact kk _ H' I' r2 (g1.trans g2) (Is.lst (RdK.of f1) f3)
  | own _=>cases e4
  | bor _=>cases e4
  | dic _=>cases e4
theorem t_co {K:PySem.W.Frag}{E:XK}:∀ U H Q,tO K B (fn1 (coF g) t) U H Q->tCall (spD K g) [] E (tAD K B t) U H Q:=λU H Q q=>by
 obtain ⟨G,I,Y,d,af,r,e1,kk⟩:=q
 obtain ⟨ds,ab,e2,e3⟩:=sN e1
 obtain ⟨e4,rfl⟩:=tx e3
 refine ⟨G,I,Y,ds,_,r,e2,λvs H1 I1 r1 g1 h1=>?_⟩
 show spD K g (vs++[]) H1 Q E
 rw [append_nil]
 unfold coF at e4
 cases e5:g (ds.map .val) with
 | none=>rw [e5] at e4;cases e4
 | some q =>
  obtain ⟨rr,aY⟩:=q
  rw [e5] at e4
  cases rr with
  | own d' =>
   cases e4
   refine ⟨H1,I1,ds.map .val,.own d,aY,v5 r1 h1,vX ds,e5,λv H' I' r' g' hv=>?_⟩
   obtain ⟨r2,g2⟩:=zo r1 r' g'
   obtain ⟨q,xs,rfl,b2,b3,b4,b5,b6⟩:=hv
   exact kk q xs H' I' r2 (g1.trans g2) b2 b3 (r1.gFree b4) (r1.apart b4) b6
  | fro d' =>
   obtain ⟨nl,e4⟩:=tJ e4
   subst e4
   refine ⟨H1,I1,ds.map .val,.fro d,aY,v5 r1 h1,vX ds,e5,λv H' I' r' g' hv=>?_⟩
   obtain ⟨p,xs,rfl,f1,f2,f3⟩:=hv
   have new:∀ b o,tupOf I1 I' b=some o->I1 b=some o\/H1 b=none:=λb o e=>by
    rcases Ad e with z | ⟨_,z,_⟩
    ·exact .inl z
    ·exact g'.new b o z
   have r2:Rep K B G (tupOf I1 I') H' U _:=r1.ext Dm r'.gH (λb o e=>by
    rcases Ad e with z | ⟨_,z,_⟩
    ·exact r'.iH b o (g'.up b o z)
    ·exact r'.iH b o z) new
   refine kk p xs H' (tupOf I1 I') r2 (g1.trans ⟨Dm,λb o e=>(new b o e).imp (λz=>z) λz=>r1.gFree z⟩) (r'.iH p _ f1) ?_ (r1.gFree f2) (r1.apart f2) (yJ g'.up _ _ nl f3)
   cases e:tupOf I1 I' p with
   | none=>rfl
   | some o =>
    rcases Ad e with z | ⟨_,z,zn⟩
    ·rw [r1.iFree f2] at z;cases z
    ·rw [f1] at z;cases z;exact absurd rfl (zn _)
  | val _=>cases e4
  | bor _=>cases e4
  | dic _=>cases e4
variable {rH:Nat}{b:Expr}
theorem t6 (F:FnOk X.prog X.w X.K X.mg X.base CX0 k f fd ps (spD X.K g)) (hr:Room k X.A) (hg:Gl X x) (hm:X.mg x=some (.ref f)) (hk:keepIn X.K (.ref f)=true) (hb:Binds X.K fd ps []) (ha:AD X B (e::es) t)
  (bi:(x == ("__debug__":Str))=false:=by decide) (he:starEach (e::es) X.env=(false,eval e X.env)::starEach es X.env:=by rfl) (az:(backTo pos (starEach es X.env)).any (·.1)=false:=by rfl) :
  ED X B (.Call (.Name x p) (e::es) [] pos) (fn1 (cvF g) t):=PE.imp (AI F hr hg hm hk hb .nil pass0 ha bi he az) t_cv
theorem wP (F:FnOk X.prog X.w X.K X.mg X.base CX0 k f fd ps (spD X.K g)) (hr:Room k X.A) (hg:Gl X x) (hm:X.mg x=some (.ref f)) (hk:keepIn X.K (.ref f)=true) (hb:Binds X.K fd ps []) (ha:AD X B (e::es) t)
  (bi:(x == ("__debug__":Str))=false:=by decide) (he:starEach (e::es) X.env=(false,eval e X.env)::starEach es X.env:=by rfl) (az:(backTo pos (starEach es X.env)).any (·.1)=false:=by rfl) :
  EO X B (.Call (.Name x p) (e::es) [] pos) (fn1 (coF g) t):=PE.imp (AI F hr hg hm hk hb .nil pass0 ha bi he az) t_co
noncomputable def hide (H:Hp) (p:Addr):Hp:=λb=>if b=p then none else H b
theorem Bn {H:Hp}{p:Addr}:hide H p p=none:=by unfold hide;rw [if_pos rfl]
theorem va {H:Hp}{p b:Addr} (h:b≠p):hide H p b=H b:=by unfold hide;rw [if_neg h]
theorem Jy {H:Hp}{p:Addr}:Same (hide H p) H:=λb o e=>by
 by_cases h:b=p
 ·subst h;rw [Bn] at e;cases e
 ·rw [va h] at e;exact e
noncomputable def bcF (g:List R->Option (R×List R)) (c ds:List D):Option (R×List D):=match g (.bor c::ds.map .val) with
 | some (r,.bor c'::_)=>some (r,c')
 | _=>none
noncomputable def callB (i:Nat) (g:List R->Option (R×List R)) (t:M (List D)):M R:=mutS i (bnd t λds=>λab=>match ab[i]? with
 | some (some (.own c))=>match bcF g c ds with
  | some (r,c')=>some (r,ab.set i (some (.own c')))
  | none=>none
 | some (some (.bor c))=>match bcF g c ds with
  | some (r,c')=>some (r,ab.set i (some (.bor c')))
  | none=>none
 | _=>none)
noncomputable def asV (r:R):Option D:=match r with
 | .val d=>some d
 | _=>none
noncomputable def asO (r:R):Option (List D):=match r with
 | .own d=>some d
 | _=>none
noncomputable def cbV (i:Nat) (g:List R->Option (R×List R)) (t:M (List D)):M D:=bnd (callB i g t) λr=>lft (asV r)
theorem Rep.extBut {K:PySem.W.Frag}{G I I' H H':Hp}{U:L2.St}{Y:Gm} (r:Rep K B G I H U Y){q:Addr} (ap:Apart U Y q) (gq:G q=none) (iq:I q=none) (rJ:I' q=none) (hI:Same I I') (hH:∀ b o,H b=some o->b≠q->H' b=some o) (iH:Same I' H')
  (new:∀ b o,I' b=some o->I b=some o\/H b=none\/b=q):Rep K B G I' H' U Y where
 iH:=iH
 gH:=λb o e=>hH b o (r.gH b o e) (λz=>by subst z;rw [gq] at e;cases e)
 len:=r.len
 slot:=λi qr e=>by
  obtain ⟨v,e1,e2⟩:=r.slot i qr e
  refine ⟨v,e1,?_⟩
  have mt:qr.ptr=true->∀ ds,Mt K G I H ds v->Mt K G I' H' ds v:=λm ds h=>by
   obtain ⟨p2,xs,h1,h2,h3,h4,h5⟩:=h
   have ne:p2≠q:=λz=>ap i qr e m (by rw [e1,h1,z])
   refine ⟨p2,xs,h1,hH _ _ h2 ne,?_,h4,h5.mono hI⟩
   cases z:I' p2 with
   | none=>rfl
   | some o =>
    rcases new p2 o z with z1 | z1 | z1
    ·rw [h3] at z1;cases z1
    ·rw [h2] at z1;cases z1
    ·exact absurd z1 ne
  cases qr with
  | val d=>exact Is.mono hI e2
  | dic ds =>
   obtain ⟨p2,xs,h1,h2,h3,h4,h5⟩:=e2
   have ne:p2≠q:=λz=>ap i _ e rfl (by rw [e1,h1,z])
   refine ⟨p2,xs,h1,hH _ _ h2 ne,?_,h4,h5.mono hI⟩
   cases z:I' p2 with
   | none=>rfl
   | some o =>
    rcases new p2 o z with z1 | z1 | z1
    ·rw [h3] at z1;cases z1
    ·rw [h2] at z1;cases z1
    ·exact absurd z1 ne
  | own ds=>exact mt rfl ds e2
  | bor ds=>exact mt rfl ds e2
  | fro ds=>obtain ⟨p,xs,f1,f2,f3,f4⟩:=e2;exact ⟨p,xs,f1,hI _ _ f2,f3,f4.mono hI⟩
 dist:=r.dist
 bor:=r.bor
theorem borrow {K:PySem.W.Frag}{G I H:Hp}{U:L2.St}{Y:Gm}{i:Nat}{q q':R}{c c' ds:List D}{rr:R}{ws:List V}{Q:VK}{E:XK} (r:Rep K B G I H U Y) (hq:Y[i]?=some (some q)) (hc:(q=.own c/\q'=.own c')\/(q=.bor c/\q'=.bor c')) (hd:IsA K I ds ws){v0:V} (gA:U[i]?=some (some v0))
  (hg:bcF g c ds=some (rr,c')) (k:∀ v H' I',Rep K B G I' H' U (Y.set i (some q'))->Grow G I I'->ResOk K G I' H' U (Y.set i (some q')) rr v->Q v H'):spD K g (v0::ws) H Q E:=by
 obtain ⟨v,e1,e2⟩:=r.slot i q hq
 rw [gA] at e1
 cases e1
 have hm:q.ptr=true:=by rcases hc with ⟨rfl,_⟩ | ⟨rfl,_⟩<;>rfl
 have mt:Mt K G I H c v0:=by rcases hc with ⟨rfl,_⟩ | ⟨rfl,_⟩<;>exact e2
 obtain ⟨a,xs,rfl,h1,h2,h3,h4⟩:=mt
 unfold bcF at hg
 cases e3:g (.bor c::ds.map .val) with
 | none=>rw [e3] at hg;cases hg
 | some z =>
  obtain ⟨r0,aY⟩:=z
  rw [e3] at hg
  cases aY with
  | nil=>cases hg
  | cons y aY =>
   cases y with
   | val _=>cases hg
   | own _=>cases hg
   | fro _=>cases hg
   | dic _=>cases hg
   | bor c2 =>
    cases hg
    refine ⟨hide H a,I,.bor c::ds.map .val,rr,.bor c'::aY,?_,by rw [all_cons,vX];rfl,e3,λv H' I' r' g' hv=>?_⟩
    ·have rv:=v5 r hd
     exact {
      iH:=r.iH,gH:=Jy
      len:=by rw [map_cons,map_cons,length_cons,length_cons,rv.len]
      slot:=λj qr e=>by
       cases j with
       | zero=>cases e;exact ⟨_,rfl,a,xs,rfl,h1,h2,Bn,h4⟩
       | succ j =>
        obtain ⟨w,e4,e5⟩:=rv.slot j qr (by simpa using e)
        refine ⟨w,by simpa using e4,?_⟩
        have e9:((ds.map R.val).map some)[j]?=some (some qr):=e
        obtain ⟨z,f1,f2⟩:=getMap e9
        cases f2
        obtain ⟨d,f3,rfl⟩:=getMap f1
        exact e5
      dist:=λj l qr rK w e e' m m' s1 s2=>by
       have only:∀ {j:Nat}{qr:R},((R.bor c::ds.map R.val).map some)[j]?=some (some qr)->qr.ptr=true->j=0:=λ{j qr} e m=>by
        cases j with
        | zero=>rfl
        | succ j =>
         have e9:((ds.map R.val).map some)[j]?=some (some qr):=e
         obtain ⟨z,f1,f2⟩:=getMap e9
         cases f2
         obtain ⟨d,f3,rfl⟩:=getMap f1
         cases m
       rw [only e m,only e' m']
      bor:=λj es e=>rfl }
    ·obtain ⟨w,e4,e5⟩:=r'.slot 0 (.bor c') rfl
     cases e4
     obtain ⟨a',bN,e6,f1,f2,f3,f4⟩:=e5
     cases e6
     have fL:Apart U (Y.set i none) a:=λj r1 z m s=>by
      rcases tP z with ⟨_,z',_⟩ | ⟨n,z'⟩
      ·cases z'
      ·exact n (r.dist j i r1 q _ z' hq m hm s gA)
     have r1:=(r.forget i).extBut (q:=a) fL h3 h2 f2 g'.up (λb o e n=>r'.gH b o (by rw [va n];exact e)) r'.iH (λb o e=>by
      rcases g'.new b o e with z | z
      ·exact .inl z
      ·by_cases n:b=a
       ·exact .inr (.inr n)
       ·rw [va n] at z;exact .inr (.inl z))
     have r2:=r1.learn (i:=i) (q:=q') (v:=.ref a) gA (by rcases hc with ⟨_,rfl⟩ | ⟨_,rfl⟩<;>exact ⟨a,bN,rfl,f1,f2,h3,f4⟩) (λm p2 e j r' n z m' s=>by
      cases e
      exact fL j r' z m' s) (λes z=>by
      rcases hc with ⟨_,rfl⟩ | ⟨rfl,rfl⟩
      ·cases z
      ·exact r.bor i c hq)
     rw [set_set] at r2
     have g2:Grow G I I':=⟨g'.up,λb o e=>by
      rcases g'.new b o e with z | z
      ·exact .inl z
      ·by_cases n:b=a
       ·subst n;exact .inr h3
       ·rw [va n] at z;exact .inr (r.gFree z)⟩
     refine k v H' I' r2 g2 ?_
     cases rr with
     | val d=>exact hv
     | bor d=>exact hv
     | fro d =>
      obtain ⟨p2,ys,b1,b2,b3,b4⟩:=hv
      have ne:p2≠a:=λz=>by rw [z,f2] at b2;cases b2
      rw [va ne] at b3
      exact ⟨p2,ys,b1,b2,r.gFree b3,b4⟩
     | dic d =>
      obtain ⟨p2,ys,b1,b2,b3,b4,b5,b6⟩:=hv
      have ne:p2≠a:=λz=>b5 0 (.bor c') rfl rfl (by rw [z];rfl)
      rw [va ne] at b4
      refine ⟨p2,ys,b1,b2,b3,r.gFree b4,λj r3 z m s=>?_,b6⟩
      rcases tP z with ⟨rfl,z',_⟩ | ⟨n,z'⟩
      ·rw [gA] at s;cases s;exact ne rfl
      ·exact r.apart b4 j r3 z' m s
     | own d =>
      obtain ⟨p2,ys,b1,b2,b3,b4,b5,b6⟩:=hv
      have ne:p2≠a:=λz=>b5 0 (.bor c') rfl rfl (by rw [z];rfl)
      rw [va ne] at b4
      refine ⟨p2,ys,b1,b2,b3,r.gFree b4,λj r3 z m s=>?_,b6⟩
      rcases tP z with ⟨rfl,z',_⟩ | ⟨n,z'⟩
      ·rw [gA] at s;cases s;exact ne rfl
      ·exact r.apart b4 j r3 z' m s
theorem Hb {i:Nat}{t:M (List D)}{Y af:Gm}{rr:R} (h:callB i g t Y=some (rr,af)):isMut Y i=true/\∃ ds ab q q' c c',t Y=some (ds,ab)/\ab[i]?=some (some q)/\((q=.own c/\q'=.own c')\/(q=.bor c/\q'=.bor c'))/\bcF g c ds=some (rr,c')/\af=ab.set i (some q'):=by
 obtain ⟨hm,h⟩:=vT h
 obtain ⟨ds,ab,e1,e2⟩:=sN h
 refine ⟨hm,ds,ab,?_⟩
 cases e:ab[i]? with
 | none=>simp only [e] at e2;cases e2
 | some o =>
  cases o with
  | none=>simp only [e] at e2;cases e2
  | some q =>
   cases q with
   | val d=>simp only [e] at e2;cases e2
   | fro d=>simp only [e] at e2;cases e2
   | dic d=>simp only [e] at e2;cases e2
   | own c =>
    simp only [e] at e2
    cases e3:bcF g c ds with
    | none=>simp only [e3] at e2;cases e2
    | some z =>
     obtain ⟨r0,c'⟩:=z
     simp only [e3] at e2
     cases e2
     exact ⟨.own c,.own c',c,c',e1,rfl,.inl ⟨rfl,rfl⟩,e3,rfl⟩
   | bor c =>
    simp only [e] at e2
    cases e3:bcF g c ds with
    | none=>simp only [e3] at e2;cases e2
    | some z =>
     obtain ⟨r0,c'⟩:=z
     simp only [e3] at e2
     cases e2
     exact ⟨.bor c,.bor c',c,c',e1,rfl,.inr ⟨rfl,rfl⟩,e3,rfl⟩
theorem HH {K:PySem.W.Frag}{E:XK}{i:Nat}:∀ U H Q,tD K B (cbV i g t) U H Q->tCall (spD K g) [] E (tCons (tVar i) (tAD K B t)) U H Q:=λU H Q q=>by
 obtain ⟨G,I,Y,d,af,r,e1,kk⟩:=q
 obtain ⟨rr,rL,e2,e3⟩:=sN e1
 obtain ⟨e4,rfl⟩:=tx e3
 obtain ⟨hm,ds,ab,q,q',c,c',f1,f2,f3,f4,rfl⟩:=Hb e2
 obtain ⟨a,xs,h1,h2⟩:=vw hm r
 refine ⟨_,h1,G,I,Y,ds,ab,r,f1,λws H1 I1 r1 g1 hd=>?_⟩
 show spD K g ((.ref a::ws)++[]) H1 Q E
 rw [append_nil]
 refine borrow r1 f2 f3 hd h1 f4 λv H' I' r' g' hv=>?_
 cases rr with
 | val d'=>cases e4;exact kk v H' I' r' (g1.trans g') hv
 | own _=>cases e4
 | bor _=>cases e4
 | fro _=>cases e4
 | dic _=>cases e4
theorem we {i:Nat}{y:Str}{py:Pos} (F:FnOk X.prog X.w X.K X.mg X.base CX0 k f fd ps (spD X.K g)) (hr:Room k X.A) (hg:Gl X x) (hm:X.mg x=some (.ref f)) (hk:keepIn X.K (.ref f)=true) (hb:Binds X.K fd ps []) (hv:PE X (.Name y py) (tVar i)) (ha:AD X B es t)
  (bi:(x == ("__debug__":Str))=false:=by decide) (he:starEach (.Name y py::es) X.env=(false,eval (.Name y py) X.env)::starEach es X.env:=by rfl) (az:(backTo pos (starEach es X.env)).any (·.1)=false:=by rfl) :
  ED X B (.Call (.Name x p) (.Name y py::es) [] pos) (cbV i g t):=PE.imp (AI F hr hg hm hk hb .nil pass0 (wy hv ha he) bi he az) HH
end
end DL
namespace DL
open PySem PySem.Spec PyProof.Rows L2
noncomputable def relab (sc cn:Scope):Scope:={ sc with names:=sc.names.map λ(n,k)=>if (k == .free&&cn.kind == .function&&cn.names.lookup n == some .cell) then (n,.cell) else (n,k) }
noncomputable def clo (cells:List (Str×Addr)):List (Str×NameKind)->List (Str×Addr)->List (Str×Addr)
 | [],ae=>ae
 | (n,k)::r,ae=>if k == .free then clo cells r ((n,(cells.lookup n).getD 0)::ae) else clo cells r ae
theorem B7 {env:Env} (f:Str×NameKind->List (Str×Addr)->Sem (ForInStep (List (Str×Addr))))
  (hf:∀ name kind cs,f (name,kind) cs=if kind == .free then (do let a ← cellOf env name;pure (.yield ((name,a)::cs))) else pure (.yield cs)) :
  ∀ (names:List (Str×NameKind)) (ae:List (Str×Addr)),(∀ n,(n,NameKind.free)∈names->∃ c,env.cells.lookup n=some c)->(forIn names ae f:Sem _)=pure (clo env.cells names ae)
 | [],ae,_=>by rw [forIn_nil];rfl
 | (n,k)::r,ae,h=>by
  rw [forIn_cons,hf]
  unfold clo
  have ih:=λlV=>B7 f hf r lV (λn hn=>h n (mem_cons_of_mem _ hn))
  by_cases hk:(k == NameKind.free)=true
  ·rw [if_pos hk,if_pos hk]
   have bF:k=.free:=by simpa using hk
   subst bF
   obtain ⟨c,hc⟩:=h n mem_cons_self
   have e:cellOf env n=pure c:=by unfold cellOf;rw [hc]
   rw [e,hc]
   simp only [pure_bind,Option.getD_some]
   exact ih _
  ·rw [if_neg hk,if_neg hk]
   simp only [pure_bind]
   exact ih _
theorem Bh {scope:Scope}{env:Env} (h:∀ n,(n,NameKind.free)∈scope.names->∃ c,env.cells.lookup n=some c):closureFor scope env=pure (clo env.cells scope.names []):=by
 unfold closureFor
 dsimp only
 rw [B7 (env:=env) _ (λname kind cs=>by cases hk:kind == NameKind.free<;>simp [hk]) scope.names [] h]
 rfl
theorem xm {cells:List (Str×Addr)}:∀ {names:List (Str×NameKind)}{ae:List (Str×Addr)}{x:Str}{c:Addr},(x,c)∈clo cells names ae->(x,c)∈ae\/((x,NameKind.free)∈names/\c=(cells.lookup x).getD 0)
 | [],ae,x,c,h=>.inl h
 | (n,k)::r,ae,x,c,h=>by
  unfold clo at h
  by_cases hk:(k == NameKind.free)=true
  ·rw [if_pos hk] at h
   have bF:k=.free:=by simpa using hk
   subst bF
   rcases xm h with z | ⟨z1,z2⟩
   ·rcases mem_cons.mp z with z | z
    ·cases z;exact .inr ⟨mem_cons_self,rfl⟩
    ·exact .inl z
   ·exact .inr ⟨mem_cons_of_mem _ z1,z2⟩
  ·rw [if_neg hk] at h
   rcases xm h with z | ⟨z1,z2⟩
   ·exact .inl z
   ·exact .inr ⟨mem_cons_of_mem _ z1,z2⟩
theorem Ak {cells:List (Str×Addr)}:∀ {names:List (Str×NameKind)}{ae:List (Str×Addr)}{x:Str},((x,NameKind.free)∈names\/∃ c,ae.lookup x=some c)->∃ c,(clo cells names ae).lookup x=some c
 | [],ae,x,h=>by
  rcases h with h | h
  ·cases h
  ·exact h
 | (n,k)::r,ae,x,h=>by
  unfold clo
  have push:∀ c0:Addr,(∃ c,ae.lookup x=some c)->∃ c,((n,c0)::ae).lookup x=some c:=λc0 ⟨c,hc⟩=>by
   rw [List.lookup_cons]
   cases x == n
   ·exact ⟨c,hc⟩
   ·exact ⟨c0,rfl⟩
  by_cases hk:(k == NameKind.free)=true
  ·rw [if_pos hk]
   refine Ak ?_
   rcases h with h | h
   ·rcases mem_cons.mp h with z | z
    ·cases z
     exact .inr ⟨_,by rw [List.lookup_cons,beq_self_eq_true]⟩
    ·exact .inl z
   ·exact .inr (push _ h)
  ·rw [if_neg hk]
   refine Ak ?_
   rcases h with h | h
   ·rcases mem_cons.mp h with z | z
    ·cases z;exact absurd (by rfl) hk
    ·exact .inl z
   ·exact .inr h
structure CompScope (cn sc:Scope) (N N':List Str) (m:Nat):Prop where
 kind:sc.kind=.function
 nocell:∀ y∈sc.names,y.2≠.cell
 locals:∀ y∈sc.names,y.2=.local->sc.names.lookup y.1=some .local
 free:∀ y∈sc.names,y.2=.free->cn.names.lookup y.1=some .cell\/cn.names.lookup y.1=some .free
 nd:N'.Nodup
 len:N'.length=m+N.length
 up:∀ p∈(N'.drop m).zip N,((relab sc cn).names.lookup p.1=none)\/(p.1=p.2/\(relab sc cn).names.lookup p.1≠some .local)
noncomputable def cxC (X:Cx) (scope:Scope) (N':List Str) (C:Addr) (s:Shared) (H:Hp) (ex:List Addr):Cx :=
 { X with N:=N',s₀:=s,H₀:=H,env:=compEnvC scope (clo X.env.cells scope.names []) C X.env,outer:=X.stack,stack:=X.stack,ex:=ex,fn:=λ_=>false,pn:=[],xe:=λ_ _=>False }
def PTs (X:Cx) (bg:List Expr) (t:TT):Prop :=
 ∀ (aa:List (Addr×Obj)) (s:Shared) (U:L2.St) (H:Hp) (Q:Bool->Hp->Prop),Inv X aa U H s->t U H Q →
  wpAny (model X.prog X.w) X.A (forIn bg true λc r=>if r=true then do let ok ← isTrue c X.env (eval c X.env);pure (yield ok) else pure (yield r)) (TP X aa U Q) X.xe s
theorem Mp {X:Cx}:PTs X [] (λ_ H Q=>Q true H):=λaa s U H Q I h=>wpAny_tests_nil ⟨H,I,h⟩
theorem Mg {X:Cx}{c:Expr}{t:TT} (h:PT X c t):PTs X [c] t:=λaa s U H Q I q=>wpAny_tests_one (h aa s U H Q I q)
abbrev calm (P:Program) (w:World) (A:Around){α:Type} (m:Sem α) (Q:α->Shared->Prop) (s:Shared):Prop:=wpAny (model P w) A m Q (λ_ _=>False) s
theorem calm.on {P:Program}{w:World}{A:Around}{α Z:Type}{m:Sem α}{f:α->Sem Z}{Q:α->Shared->Prop}{K:Z->Shared->Prop}{E:Value->Shared->Prop}{s:Shared} (h:calm P w A m Q s) (k:∀ a s',Q a s'->wpAny (model P w) A (f a) K E s'):wpAny (model P w) A (m >>= f) K E s :=
 wpAny_bind (wpAny_mono h k λ_ _ no=>no.elim)
def TurnMeets (P:Program) (w:World) (A:Around) (cq iE:Value) (tg bG:Expr) (bg:List Expr) (env:Env) (again aL:Shared->Prop) (s:Shared):Prop :=
 calm P w A (pyNext cq) (λeS s=>match eS with
  | none=>aL s
  | some v=>calm P w A (letOwnedTupleGo tg cq v) (λ_ s=>calm P w A (assign tg env v) (λ_ s =>
    calm P w A (forIn bg true λc r=>if r=true then do let ok ← isTrue c env (eval c env);pure (yield ok) else pure (yield r)) (λjW s =>
     cond jW (calm P w A (eval bG env) (λx s=>calm P w A (call (.builtin "list.append") [iE,x]) (λ_ s=>again s) s) s) (again s)) s) s) s) s
theorem Iw {P:Program}{w:World}{A:Around}{aL:Result->Shared->Prop}{s:Shared}{bG tg jX:Expr}{bg:List Expr}{sc:Scope}{bj:Pos}{cq iE:Value}{env:Env} (W:Nat->Shared->Prop)
  (dW:∀ left s,W left s->TurnMeets P w A cq iE tg bG bg env (λs'=>∃ less,less < left/\W less s') (aL (.ok .next)) s) (left:Nat) (start:W left s) :
  codeAny (model P w) A (.compLoop (.ListComp bG [⟨tg,jX,bg,0⟩] sc bj) 0 cq iE env) aL s:=by
 refine codeAny_loop rfl W (λleft s here=>?_) left start
 have turn:=dW left s here
 unfold TurnMeets at turn
 refine wpAny_noted ?_
 rw [compTurn_list]
 refine wpAny_bind (wpAny_standAt (turn.on λeS s1 h1=>?_))
 cases eS with
 | none=>exact wpAny_pure h1
 | some v=>exact calm.on h1 λ_ _ h2=>calm.on h2 λ_ _ h3=>calm.on h3 λjW s4 h4=>match jW,h4 with
  | false,h4=>wpAny_pure (And.intro rfl h4)
  | true,h4=>wpAny_bind (calm.on h4 λ_ _ h5=>calm.on h5 λ_ _ h6=>wpAny_pure (wpAny_pure (And.intro rfl h6)))
def Clear (X:Cx) (aa:List (Addr×Obj)) (H:Hp) (C:Addr):Prop:=H C=none/\C≠X.env.locals/\X.s₀.heap.objs.size<=C/\(∀ x c,X.env.cells.lookup x=some c->c≠C)/\∀ p∈X.pn++aa,p.1≠C
theorem Inv.clear {X:Cx}{aa:List (Addr×Obj)}{U:L2.St}{H:Hp}{s:Shared}{h':Heap}{C:Addr} (I:Inv X aa U H s) (c:Clear X aa H C) (hs:Heap.SameBut C s.heap h'):Inv X aa U H { s with heap:=h' } :=
 I.turned (t':=s.toks) (λb o hb e=>(hs.2 b hb).trans e) c.1 c.2.1 (.inr c.2.2.1) c.2.2.2.1 c.2.2.2.2
def CompW (m:Nat) (J:It) (g:TG) (tt:TT) (te:TE) (U:L2.St) (H1:Hp) (p:Addr) (Q:VK):Prop :=
 ∃ W:Nat->Nat->L2.St->Hp->Prop,(∃ n,W 0 n (replicate m none++U) (upd H1 p (.lst [])))/\∀ i n aj H',W i n aj H' →
  (J.stop i H'/\Q (.ref p) H')\/(J.go i H'/\∀ x H2,J.yld i H' x H2->g x aj H2 λaW H3=>tt aW H3 λb H4 =>
   if b=true then te aW H4 λy H5=>∃ ae,H5 p=some (.lst ae)/\ae.length < sizeLine/\∃ n',n' < n/\W (i+1) n' aW (upd H5 p (.lst (ae++[y])))
   else ∃ n',n' < n/\W (i+1) n' aW H4)
section
variable {X:Cx}{tg bG iter:Expr}{bg:List Expr}{scope:Scope}{pos:Pos}{N':List Str}{m:Nat}{g:TG}{tt:TT}{te:TE}
theorem Dk {aa:List (Addr×Obj)}{U:L2.St}{H2:Hp}{s2:Shared}{it:Addr}{fp:List Addr}{tn:Nat->Heap->Prop}{J:It}{Q:VK}{E:Value->Shared->Prop} (S:CompScope X.env.scope scope X.N N' m) (hc:X.calm=true)
  (hg:∀ C s H ex,PG (cxC X scope N' C s H ex) tg g) (ht:∀ C s H ex,PTs (cxC X scope N' C s H ex) bg tt) (he:∀ C s H ex,PE (cxC X scope N' C s H ex) bG te)
  (I2:Inv X aa U H2 s2) (T:Turn X.prog X.w X.K tg J fp it tn) (dQ:tn 0 s2.heap) (f2:∀ b∈fp,FpOk X aa H2 b) (hw:∀ p,H2 p=none->CompW m J g tt te U H2 p Q) :
  wpAny (model X.prog X.w) X.A (newList []) (λae s3=>wpAny (model X.prog X.w) X.A (newFunctionEnv scope X.env.globals (clo X.env.cells scope.names []) [] X.env.qual none .none (some X.env)) (λcY s4 =>
   codeAny (model X.prog X.w) X.A (.compStart (.ListComp bG [⟨tg,iter,bg,0⟩] scope pos) 0 (.ref it) ae { cY with scope:=relabel scope X.env })
    (λr s'=>match r with | .ok _=>∃ p H' mm,ae=.ref p/\s'.heap.Ns cY.locals mm/\Inv X aa U H' s'/\Clear X aa H' cY.locals/\Q (.ref p) H' | .error _=>False) s4) E s3) E s2:=by
 refine wpAny_newObj_type (wpAny_newFunctionEnv S.nocell (by intro y hy;simp at hy) (λh1 jq jr=>?_) S.kind)
 dsimp only at jq jr ⊢
 -- the new list
 have hp:H2 s2.heap.objs.size=none:=I2.hok.fresh (le_refl _)
 obtain ⟨W,⟨n0,w0⟩,turn⟩:=hw _ hp
 obtain ⟨p,hP⟩:∃ p,p=s2.heap.objs.size:=⟨_,rfl⟩
 obtain ⟨s3,jY⟩:∃ s3:Shared,s3={ s2 with heap:=s2.heap.push { cls:=.type "list", dict:=none,data:=.seq ([]:List Value).toArray } }:=⟨_,rfl⟩
 obtain ⟨C,hC⟩:∃ C,C=s3.heap.objs.size:=⟨_,rfl⟩
 obtain ⟨H3,jZ⟩:∃ H3,H3=upd H2 p (.lst []):=⟨_,rfl⟩
 have h3:s3.heap=s2.heap.push { cls:=.type "list", dict:=none,data:=.seq ([]:List Value).toArray }:=by rw [jY]
 have fM:h1.Ns C (λx=>([]:List (Str×Value)).reverse.lookup x):=by rw [hC,h3];exact jq
 have iF:Heap.SameBut C (s3.heap.push { cls:=.type "dict", data:=.dict #[] }) h1:=by rw [hC,h3];exact jr
 rw [← hP] at hp
 have oJ:W 0 n0 (replicate m none++U) H3:=by rw [jZ,hP];exact w0
 have j3:∀ i n aj H',W i n aj H'->(J.stop i H'/\Q (.ref p) H')\/(J.go i H'/\∀ x H2,J.yld i H' x H2->g x aj H2 λaW H3=>tt aW H3 λb H4 =>
   if b=true then te aW H4 λy H5=>∃ ae,H5 p=some (.lst ae)/\ae.length < sizeLine/\∃ n',n' < n/\W (i+1) n' aW (upd H5 p (.lst (ae++[y])))
   else ∃ n',n' < n/\W (i+1) n' aW H4):=by rw [hP];exact turn
 have I3:Inv X aa U H3 s3:=by
  rw [jZ,jY,hP]
  exact I2.laid (t':=s2.toks) (λb u e=>get?_push_of_some _ e) (le_refl _) ⟨zero_le _,[],0,.nil,get?_push_size _ rfl⟩
 have fH:tn 0 s3.heap:=T.keep _ _ _ dQ λb _ o e=>by rw [h3];exact get?_push_of_some _ e
 have f3:∀ b∈fp,FpOk X aa H3 b:=λb hb=>by
  obtain ⟨a0,a1⟩:=f2 b hb
  refine ⟨?_,a1⟩
  obtain ⟨o,e,_⟩:=T.obj _ _ dQ b hb
  have ne:b≠p:=λz=>by
   have:=lt_size e
   rw [← hP,z] at this
   exact lt_irrefl _ this
  rw [jZ,sO ne];exact a0
 -- the block's context
 have bA:∀ x c,(clo X.env.cells scope.names []).lookup x=some c->X.env.cells.lookup x=some c:=λx c e=>by
  rcases xm (mem_of_lookup e) with z | ⟨z1,z2⟩
  ·cases z
  ·obtain ⟨c',aK⟩:=I2.ok.has x (S.free _ z1 rfl)
   rw [aK] at z2
   rw [z2];exact aK
 have fv:Clear X aa H3 C:=by
  refine ⟨?_,?_,?_,λx c e z=>?_,λq hq z=>?_⟩
  ·exact I3.hok.fresh (Nat.le_of_eq hC.symm)
  ·have:=I3.lt;rw [← hC] at this;exact ne_of_gt this
  ·have:=I3.sz;rw [← hC] at this;exact this
  ·obtain ⟨v,q⟩:=I3.cell x c e
   have:=q.lt;rw [← hC,z] at this;exact lt_irrefl _ this
  ·have:=lt_size (I3.pin q hq).1
   rw [← hC,z] at this;exact lt_irrefl _ this
 have old:∀ b o,s3.heap.get? b=some o->h1.get? b=some o:=λb o e=>by
  have ne:b≠C:=λz=>by have:=lt_size e;rw [← hC,z] at this;exact lt_irrefl _ this
  exact (iF.2 b ne).trans (get?_push_of_some _ e)
 have ok:(cxC X scope N' C s3 H3 fp).Ok:=by
  refine ⟨I3.ok.mod,S.kind,I3.ok.glob,I3.ok.blt,Nat.le_of_eq hC.symm,λx y c e1 e2=>I3.ok.inj x y c (bA x c e1) (bA y c e2),λx hx=>?_,λx c z=>(nomatch z),λz=>I3.ok.hd z,I3.ok.frames,.inl rfl,λb hb=>⟨λz=>?_,λx c e=>(f3 b hb).2.2.2.2.1 x c (bA x c e)⟩,I3.bs,le_trans I3.ok.bsz I3.sz,λb o e hb=>?_,λb hb z=>?_,I3.stack,λb hb=>I3.stkFree b hb,λc P h=>I3.base.tbls P _ (I3.ok.tb c P h)⟩
  ·-- has
   have gB:(relab scope X.env.scope).names.lookup x=some .cell\/(relab scope X.env.scope).names.lookup x=some .free:=hx
   have mem:∃ k,(x,k)∈(relab scope X.env.scope).names/\(k=NameKind.cell\/k=NameKind.free):=by
    rcases gB with z | z
    ·exact ⟨_,mem_of_lookup z,.inl rfl⟩
    ·exact ⟨_,mem_of_lookup z,.inr rfl⟩
   obtain ⟨k,hm,hk⟩:=mem
   obtain ⟨⟨n1,k1⟩,dX,e1⟩:=mem_map.mp hm
   refine Ak (.inl ?_)
   dsimp only at e1
   by_cases hcond:(k1 == NameKind.free&&X.env.scope.kind == ScopeKind.function&&X.env.scope.names.lookup n1 == some NameKind.cell)=true
   ·rw [if_pos hcond] at e1
    cases e1
    have:k1=.free:=by
     simp only [and_eq_true,beq_iff_eq] at hcond
     exact hcond.1.1
    rw [← this];exact dX
   ·rw [if_neg hcond] at e1
    cases e1
    rcases hk with rfl | rfl
    ·exact absurd rfl (S.nocell _ dX)
    ·exact dX
  ·obtain ⟨o,e,_⟩:=T.obj _ _ fH b hb
   have:=lt_size e
   rw [← hC] at this
   have z':b=C:=z
   rw [z'] at this;exact lt_irrefl _ this
  ·obtain ⟨a0,a1,a2,a3,_⟩:=f3 b hb
   rcases a3 with z | z
   ·exact I3.ok.noex b o e z
   ·exact absurd (lt_of_lt_of_le (lt_size e) (le_trans I3.ok.bsz z)) (lt_irrefl _)
  ·have z':=I3.stkSub b z
   obtain ⟨a0,a1,a2,_⟩:=f3 b hb
   rcases mem_cons.mp z' with e | e
   ·exact a1 e
   ·exact a2 e
 -- the block's first state
 have I4:Inv (cxC X scope N' C s3 H3 fp) [] (replicate m none++U) H3 { s3 with heap:=h1,toks:=s3.toks+([]:List (Str×Value)).length }:=by
  obtain ⟨mo,rM,lP⟩:=I3.loc
  refine ⟨ok,rfl,I3.bare,Un.kept old,⟨_,fM,λi x v e1 e2 e3=>?_⟩,λx c e=>?_,fv.1,λx c e=>I3.freeC x c (bA x c e),λq hq=>absurd (show q∈([]:List (Addr×Obj)) from hq) (by simp),I3.hok.kept old,?_⟩
  ·have hi:m<=i:=by
    by_cases z:m<=i
    ·exact z
    ·rw [getElem?_append_left (by rw [length_replicate];omega),List.getElem?_replicate] at e2
     split at e2<;>cases e2
   rw [getElem?_append_right (by rw [length_replicate];exact hi),length_replicate] at e2
   have dE:N'[i]?=some x:=e1
   have bQ:i - m < X.N.length:=by
    have:=(List.getElem?_eq_some_iff.mp dE).1
    rw [S.len] at this
    omega
   have e4:(N'.drop m)[i - m]?=some x:=by rw [getElem?_drop];rw [show m+(i - m)=i from by omega];exact dE
   have e5:X.N[i - m]?=some X.N[i - m]:=getElem?_eq_getElem bQ
   have e6:((N'.drop m).zip X.N)[i - m]?=some (x,X.N[i - m]):=by rw [List.getElem?_zip_eq_some];exact ⟨e4,e5⟩
   have lW:Vis (relab scope X.env.scope) x:=e3
   rcases S.up _ (mem_of_getElem? e6) with z | ⟨z1,z2⟩
   ·have z':(relab scope X.env.scope).names.lookup x=none:=z
    rcases lW with y | y | y<;>rw [z'] at y<;>cases y
   ·have oK:x=X.N[i - m]:=z1
    have oM:(relab scope X.env.scope).names.lookup x≠some .local:=z2
    have lX:(relab scope X.env.scope).names.lookup x=some .cell\/(relab scope X.env.scope).names.lookup x=some .free:=by
     rcases lW with y | y | y
     ·exact absurd y oM
     ·exact .inl y
     ·exact .inr y
    obtain ⟨c,cr⟩:=ok.has x lX
    have oN:=bA x c cr
    -- the name in the def's own frame
    have mem:(x,NameKind.free)∈scope.names:=by
     rcases xm (mem_of_lookup cr) with y | ⟨y,_⟩
     ·cases y
     ·exact y
    have lY:Vis X.env.scope x:=by
     rcases S.free _ mem rfl with y | y
     ·exact .inr (.inl y)
     ·exact .inr (.inr y)
    obtain ⟨u,ru,l⟩:=lP (i - m) x v (by rw [e5,← oK]) e2 lY
    refine ⟨u,ru,.inr ⟨lX,c,cr,?_⟩⟩
    rcases l with ⟨k,_⟩ | ⟨_,c',e',z'⟩
    ·have k':X.env.scope.names.lookup x=some .local:=k
     rcases S.free _ mem rfl with y | y<;>(have y':X.env.scope.names.lookup x=_:=y;rw [k'] at y';cases y')
    ·rw [oN] at e';cases e'
     exact z'.keeps old
  ·obtain ⟨v,q⟩:=I3.cell x c (bA x c e)
   exact ⟨v,q.keeps old⟩
  ·show (replicate m none++U).length=N'.length
   rw [length_append,length_replicate,S.len,I3.len]
 have cP:∀ {H':Hp},(∀ b∈fp,H' b=none)->∀ b∈fp,FpOk (cxC X scope N' C s3 H3 fp) [] H' b:=λ{H'} hn b hb=>by
  refine ⟨hn b hb,(ok.exf b hb).1,ok.exfs b hb,.inl hb,(ok.exf b hb).2,λq hq=>absurd (show q∈([]:List (Addr×Obj)) from hq) (by simp)⟩
 -- what stands behind the block
 have cX:∀ {aj:L2.St}{H':Hp}{s':Shared},Inv (cxC X scope N' C s3 H3 fp) [] aj H' s'->Inv X aa U H' s'/\Clear X aa H' C:=λ{aj H' s'} J'=>by
  refine ⟨I3.call' J'.os J'.base J'.hok J'.bare λb hb=>?_,J'.free,fv.2⟩
  obtain ⟨a0,a1,a2,a3,a4,a5⟩:=f3 b hb
  exact ⟨a3,a1,a4,a5⟩
 have aI:∀ s4:Shared,s4={ s3 with heap:=h1,toks:=s3.toks+([]:List (Str×Value)).length } →
   codeAny (model X.prog X.w) X.A (.compLoop (.ListComp bG [⟨tg,iter,bg,0⟩] scope pos) 0 (.ref it) (.ref p) (compEnvC scope (clo X.env.cells scope.names []) C X.env))
    (λr s'=>match r with | .ok _=>∃ p' H' mm,Value.ref p=.ref p'/\s'.heap.Ns C mm/\Inv X aa U H' s'/\Clear X aa H' C/\Q (.ref p') H' | .error _=>False) s4:=by
  rintro s4 rfl
  refine Iw (λn s'=>∃ i aj H',Inv (cxC X scope N' C s3 H3 fp) [] aj H' s'/\tn i s'.heap/\(∀ b∈fp,H' b=none)/\W i n aj H') ?_ n0 ⟨0,_,_,I4,T.keep _ _ _ fH λb _ o e=>old b o e,λb hb=>(f3 b hb).1,oJ⟩
  rintro n s5 ⟨i,de,H5,I5,fI,iy,w5⟩
  show TurnMeets _ _ _ _ _ _ _ _ _ _ _ _
  unfold TurnMeets
  rcases j3 i n de H5 w5 with ⟨stop,qn⟩ | ⟨go,step⟩
  ·refine wpAny_mono (T.done (cxC X scope N' C s3 H3 fp) rfl rfl rfl hc i [] s5 de H5 (λ_ _=>False) I5 (cP iy) fI stop) (λr s6 ⟨hr,I6⟩=>?_) λ_ _ z=>z
   subst hr
   obtain ⟨mm,oO,_⟩:=I6.loc
   obtain ⟨b1,b2⟩:=cX I6
   exact ⟨p,H5,mm,rfl,oO,b1,b2,qn⟩
  ·refine wpAny_mono (T.item (cxC X scope N' C s3 H3 fp) rfl rfl rfl hc i [] s5 de H5 (λ_ _=>False) I5 (cP iy) fI go) (λr s6 ⟨u,hr,h6⟩=>?_) λ_ _ z=>z
   subst hr
   refine wpAny_mono h6 (λ_ s7 ⟨x,H7,I7,r7,y7,j4,oP⟩=>?_) λ_ _ z=>z
   have oQ:=I7.pinned (cP oP) (T.obj _ _ j4)
   refine wpAny_mono (hg C s3 H3 fp _ s7 de H7 x u _ oQ r7 (step x H7 y7)) (λ_ s8 ⟨gC,H8,I8,q8⟩=>?_) λ_ _ z=>z
   refine wpAny_mono (ht C s3 H3 fp _ s8 gC H8 _ I8 q8) (λok s9 ⟨H9,I9,q9⟩=>?_) λ_ _ z=>z
   have again:∀ {lZ:L2.St}{Ha:Hp}{sa:Shared},Inv (cxC X scope N' C s3 H3 fp) ([]++pinsAt fp s7.heap) lZ Ha sa->tn (i+1) sa.heap/\(∀ b∈fp,Ha b=none):=λ{lZ Ha sa} Ia=>by
    refine ⟨T.keep _ _ _ j4 λb hb o e=>(Ia.pin (b,o) (mem_append_right _ (mem_append_right _ (xY hb e)))).1,λb hb=>?_⟩
    obtain ⟨o,e,d⟩:=T.obj _ _ j4 b hb
    exact (Ia.pin (b,o) (mem_append_right _ (mem_append_right _ (xY hb e)))).2.1
   cases ok with
   | false =>
    rw [if_neg Bool.false_ne_true] at q9
    obtain ⟨n',fU,w9⟩:=q9
    obtain ⟨a1,a2⟩:=again I9
    exact ⟨n',fU,i+1,gC,H9,I9.unpinned,a1,a2,w9⟩
   | true =>
    rw [if_pos rfl] at q9
    refine wpAny_mono (he C s3 H3 fp _ s9 gC H9 _ I9 q9) (λxv oR ⟨y,l7,oT,oU,ae,l8,hl,n',fU,oV⟩=>?_) λ_ _ z=>z
    refine wpAny_mono (Ey (X:=cxC X scope N' C s3 H3 fp) _ oR gC l7 (.ref p) [y] (.ref p) [xv] (λ_ H'=>H'=upd l7 p (.lst (ae++[y]))) oT rfl (.cons oU .nil) ⟨p,ae,y,rfl,rfl,l8,hl,rfl⟩) (λ_ rN ⟨rO,rP,l9,_,oW⟩=>?_) λ_ _ z=>z
    subst oW
    obtain ⟨a1,a2⟩:=again l9
    exact ⟨n',fU,i+1,gC,_,l9.unpinned,a1,a2,oV⟩
 subst hC
 subst jY
 subst hP
 refine codeAny_compStart_list ?_ (T.self X.A 0 _ _ _ (T.keep _ _ _ fH λb _ o e=>old b o e) ?_)
 ·exact aI _ rfl
 ·exact aI _ rfl
end
section
variable {X:Cx}{tg bG iter:Expr}{bg:List Expr}{scope:Scope}{pos:Pos}{N':List Str}{m:Nat}{g:TG}{tt:TT}{te:TE}{wi:TI}
noncomputable def tComp (m:Nat) (wi:TI) (g:TG) (tt:TT) (te:TE):TE:=λU H Q=>wi U H λJ H1=>∀ p,H1 p=none->CompW m J g tt te U H1 p Q
theorem GA (S:CompScope X.env.scope scope X.N N' m) (hc:X.calm=true) (hi:PI X tg iter wi)
  (hg:∀ C s H ex,PG (cxC X scope N' C s H ex) tg g) (ht:∀ C s H ex,PTs (cxC X scope N' C s H ex) bg tt) (he:∀ C s H ex,PE (cxC X scope N' C s H ex) bG te)
  (hs:∀ x,foldedSetIterable iter X.env x=pure x:=by intro _;rfl):PE X (.ListComp bG [⟨tg,iter,bg,0⟩] scope pos) (tComp m wi g tt te):=by
 intro aa s U H Q I h
 rw [eval_ListComp]
 refine wpAny_comprehension_free (use:=none) rfl hs (Bh λn hn=>I.ok.has n (S.free _ hn rfl)) S.kind S.locals (thn (hi aa s U H _ I h) λxv s1 h1=>thn h1 λiw s2 h2=>?_)
 obtain ⟨it,fp,tn,J,H2,e,I2,T,dQ,f2,hw⟩:=h2
 subst e
 refine thn (Dk (pos:=pos) (iter:=iter) S hc hg ht he I2 T dQ f2 hw) λae s3 h3=>thn h3 λcY s4 h4=>codeAny_mono h4 λr s5 h5=>?_
 cases r with
 | error x=>exact h5.elim
 | ok fl =>
  obtain ⟨p,H5,mm,rfl,hn,I5,cl,q⟩:=h5
  exact ⟨mm,hn,λh' fN=>⟨.ref p,H5,Inv.clear I5 cl fN,rfl,q⟩⟩
theorem Kl {i:Nat}{y:Str}{py dY:Pos} (S:CompScope X.env.scope scope X.N N' m) (hc:X.calm=true) (hN:X.N.Nodup) (ba:X.N[i]?=some y) (hy:X.env.scope.names.lookup y=some .local) (hi:PI X tg iter wi)
  (hg:∀ C s H ex,PG (cxC X scope N' C s H ex) tg g) (ht:∀ C s H ex,PTs (cxC X scope N' C s H ex) bg tt) (he:∀ C s H ex,PE (cxC X scope N' C s H ex) bG te)
  (j5:swapsWith (.ListComp bG [⟨tg,iter,bg,0⟩] scope pos) (some (.Name y py)) dY.line X.env=pure true)
  (hs:∀ x,foldedSetIterable iter X.env x=pure x:=by intro _;rfl):PS X (.Assign [.Name y py] (.ListComp bG [⟨tg,iter,bg,0⟩] scope pos) dY) (tAsg (tComp m wi g tt te) (gName i)):=by
 intro aa s U H D I h
 rw [exec_Assign_Name_used _ _ _ _ j5]
 refine wpAny_bind (wpAny_standAt (wpAny_bind ?_))
 show wpAny _ X.A (do let _ ← comprehension (.ListComp bG [⟨tg,iter,bg,0⟩] scope pos) scope X.env _ (newList []) false (eval iter X.env) (some (assign (.Name y py) X.env))) _ _ s
 refine wpAny_bind (thn (wpAny_comprehension_free (use:=some (assign (.Name y py) X.env)) (Q:=λ_ s'=>SP X aa D .next s') rfl hs (Bh λn hn=>I.ok.has n (S.free _ hn rfl)) S.kind S.locals
  (thn (hi aa s U H _ I h) λxv s1 h1=>thn h1 λiw s2 h2=>?_)) λ_ s' hq=>wpAny_pure (wpAny_pure hq))
 obtain ⟨it,fp,tn,J,H2,e,I2,T,dQ,f2,hw⟩:=h2
 subst e
 refine thn (Dk (pos:=pos) (iter:=iter) S hc hg ht he I2 T dQ f2 hw) λae s3 h3=>thn h3 λcY s4 h4=>codeAny_mono h4 λr s5 h5=>?_
 cases r with
 | error x=>exact h5.elim
 | ok fl =>
  obtain ⟨p,H5,mm,rfl,hn,I5,cl,q⟩:=h5
  show wpAny _ X.A (assign (.Name y py) X.env (.ref p)) _ _ s5
  refine wpAny_assign_Name (DI (v:=.ref p) I5 hN ba (.inl hy) rfl (λs6 I6 ⟨a,oX,ha⟩=>?_) (.inr hy))
  have fG:cY.locals≠a:=by
   rcases ha with rfl | ha
   ·exact cl.2.1
   ·exact λz=>cl.2.2.2.1 y a ha z.symm
  refine ⟨mm,hn.sameBut oX fG,λh' fN=>?_⟩
  have oY:Clear X aa H5 cY.locals:=cl
  exact ⟨_,H5,Inv.clear I6 oY fN,q⟩
end
noncomputable def inC {α:Type} (m:Nat) (g:M α):M α:=λY=>match g (replicate m none++Y) with
 | some (a,af)=>some (a,af.drop m)
 | none=>none
noncomputable def compM (aB:D->M Unit) (ts:M Bool) (el:M D):List D->M (List D)
 | []=>ret []
 | d::ds=>bnd (aB d) λ_=>bnd ts λb=>if b then bnd el λx=>bnd (compM aB ts el ds) λr=>ret (x::r) else compM aB ts el ds
noncomputable def compO (m:Nat) (it:M (List D)) (aB:D->M Unit) (ts:M Bool) (el:M D):M (List D):=bnd it λds=>if ds.length<=lim then inC m (compM aB ts el ds) else λ_=>none
noncomputable def bUp (m:Nat) (B:BB):BB:=λi=>if i < m then none else B (i - m)
theorem Hj {α:Type}{m:Nat}{g:M α}{Y af:Gm}{a:α} (h:inC m g Y=some (a,af)):∃ ab,g (replicate m none++Y)=some (a,ab)/\af=ab.drop m:=by
 unfold inC at h
 cases e:g (replicate m none++Y) with
 | none=>rw [e] at h;cases h
 | some q=>obtain ⟨b,ab⟩:=q;rw [e] at h;cases h;exact ⟨ab,rfl,rfl⟩
section
variable {K:PySem.W.Frag}{B:BB}{G I H:Hp}{U aj:L2.St}{Y af:Gm}{m:Nat}
theorem vn {α:Type}{l:List (Option α)}{m i:Nat}{a:α} (h:(replicate m (none:Option α)++l)[i]?=some (some a)):m<=i/\l[i - m]?=some (some a):=by
 by_cases hi:m<=i
 ·rw [getElem?_append_right (by rw [length_replicate];exact hi),length_replicate] at h
  exact ⟨hi,h⟩
 ·rw [getElem?_append_left (by rw [length_replicate];omega),List.getElem?_replicate] at h
  split at h<;>cases h
theorem DB {α:Type}{l:List (Option α)}{m i:Nat} (hi:m<=i):(replicate m (none:Option α)++l)[i]?=l[i - m]?:=by
 rw [getElem?_append_right (by rw [length_replicate];exact hi),length_replicate]
theorem Rep.up (r:Rep K B G I H U Y) (m:Nat):Rep K (bUp m B) G I H (replicate m none++U) (replicate m none++Y) where
 iH:=r.iH
 gH:=r.gH
 len:=by rw [length_append,length_append,length_replicate,length_replicate,r.len]
 slot:=λi q e=>by
  obtain ⟨hi,e1⟩:=vn e
  obtain ⟨v,e2,e3⟩:=r.slot _ q e1
  exact ⟨v,by rw [DB hi];exact e2,e3⟩
 dist:=λi j q q' v e e' mm j6 s1 s2=>by
  obtain ⟨hi,e1⟩:=vn e
  obtain ⟨hj,e2⟩:=vn e'
  have:=r.dist _ _ q q' v e1 e2 mm j6 (vn s1).2 (vn s2).2
  omega
 bor:=λi ds e=>by
  obtain ⟨hi,e1⟩:=vn e
  rw [DB hi,r.bor _ ds e1]
  unfold bUp
  rw [if_neg (by omega)]
theorem Rep.down (r:Rep K (bUp m B) G I H aj af) (hs:aj.drop m=U):Rep K B G I H U (af.drop m):=by
 subst hs
 exact {
  iH:=r.iH,gH:=r.gH
  len:=by rw [length_drop,length_drop,r.len]
  slot:=λi q e=>by
   rw [getElem?_drop] at e
   obtain ⟨v,e2,e3⟩:=r.slot _ q e
   exact ⟨v,by rw [getElem?_drop];exact e2,e3⟩
  dist:=λi j q q' v e e' mm j6 s1 s2=>by
   rw [getElem?_drop] at e e' s1 s2
   have:=r.dist _ _ q q' v e e' mm j6 s1 s2
   omega
  bor:=λi ds e=>by
   rw [getElem?_drop] at e ⊢
   rw [r.bor _ ds e]
   unfold bUp
   rw [if_neg (by omega)]
   congr 1
   omega }
theorem Rep.guard (r:Rep K B G I H U Y){p:Addr} (h:H p=none) (o:HO):Rep K B (upd G p o) I (upd H p o) U Y where
 iH:=r.iH.trans (tY h o)
 gH:=CF r.gH o
 len:=r.len
 slot:=λi q e=>by
  obtain ⟨v,e1,e2⟩:=r.slot i q e
  refine ⟨v,e1,?_⟩
  have mt:∀ ds,Mt K G I H ds v->Mt K (upd G p o) I (upd H p o) ds v:=λds hh=>by
   obtain ⟨p2,xs,h1,h2,h3,h4,h5⟩:=hh
   have ne:p2≠p:=ut h2 h
   exact ⟨p2,xs,h1,by rw [sO ne];exact h2,h3,by rw [sO ne];exact h4,h5⟩
  cases q with
  | val d=>exact e2
  | dic ds =>
   obtain ⟨p2,xs,h1,h2,h3,h4,h5⟩:=e2
   have ne:p2≠p:=ut h2 h
   exact ⟨p2,xs,h1,by rw [sO ne];exact h2,h3,by rw [sO ne];exact h4,h5⟩
  | own ds=>exact mt ds e2
  | bor ds=>exact mt ds e2
  | fro ds =>
   obtain ⟨p2,xs,f1,f2,f3,f4⟩:=e2
   have ne:p2≠p:=ut (r.iH _ _ f2) h
   exact ⟨p2,xs,f1,f2,by rw [sO ne];exact f3,f4⟩
 dist:=r.dist
 bor:=r.bor
theorem Rep.reguard {p:Addr}{o o':HO} (r:Rep K B (upd G p o) I H U Y) (hi:I p=none):Rep K B (upd G p o') I (upd H p o') U Y where
 iH:=λb u q=>by
  have ne:b≠p:=λz=>by subst z;rw [hi] at q;cases q
  rw [sO ne];exact r.iH b u q
 gH:=λb u q=>by
  by_cases e:b=p
  ·subst e;rw [tz] at q ⊢;exact q
  ·rw [sO e] at q ⊢;exact r.gH b u (by rw [sO e];exact q)
 len:=r.len
 slot:=λi q e=>by
  obtain ⟨v,e1,e2⟩:=r.slot i q e
  refine ⟨v,e1,?_⟩
  have mt:∀ ds,Mt K (upd G p o) I H ds v->Mt K (upd G p o') I (upd H p o') ds v:=λds hh=>by
   obtain ⟨p2,xs,h1,h2,h3,h4,h5⟩:=hh
   have ne:p2≠p:=λz=>by subst z;rw [tz] at h4;cases h4
   rw [sO ne] at h4
   exact ⟨p2,xs,h1,by rw [sO ne];exact h2,h3,by rw [sO ne];exact h4,h5⟩
  cases q with
  | val d=>exact e2
  | dic ds =>
   obtain ⟨p2,xs,h1,h2,h3,h4,h5⟩:=e2
   have ne:p2≠p:=λz=>by subst z;rw [tz] at h4;cases h4
   rw [sO ne] at h4
   exact ⟨p2,xs,h1,by rw [sO ne];exact h2,h3,by rw [sO ne];exact h4,h5⟩
  | own ds=>exact mt ds e2
  | bor ds=>exact mt ds e2
  | fro ds =>
   obtain ⟨p2,xs,f1,f2,f3,f4⟩:=e2
   have ne:p2≠p:=λz=>by rw [z,hi] at f2;cases f2
   rw [sO ne] at f3
   exact ⟨p2,xs,f1,f2,by rw [sO ne];exact f3,f4⟩
 dist:=r.dist
 bor:=r.bor
theorem Rep.unguard {p:Addr}{o:HO} (r:Rep K B (upd G p o) I H U Y) (hg:G p=none):Rep K B G I H U Y/\Apart U Y p:=by
 have ap:Apart U Y p:=λj q e mm s=>by
  obtain ⟨v,e1,e2⟩:=r.slot j q e
  obtain ⟨p2,xs,h1,h2,h3,h4⟩:=e2.mt mm
  rw [e1,h1] at s
  cases s
  rw [tz] at h4;cases h4
 refine ⟨{ iH:=r.iH,gH:=(tY hg o).trans r.gH,len:=r.len,slot:=λi q e=>?_,dist:=r.dist,bor:=r.bor },ap⟩
 obtain ⟨v,e1,e2⟩:=r.slot i q e
 refine ⟨v,e1,?_⟩
 have mt:∀ ds,Mt K (upd G p o) I H ds v->Mt K G I H ds v:=λds hh=>by
  obtain ⟨p2,xs,h1,h2,h3,h4,h5⟩:=hh
  have ne:p2≠p:=λz=>by subst z;rw [tz] at h4;cases h4
  rw [sO ne] at h4
  exact ⟨p2,xs,h1,h2,h3,h4,h5⟩
 cases q with
 | val d=>exact e2
 | dic ds =>
  obtain ⟨p2,xs,h1,h2,h3,h4,h5⟩:=e2
  have ne:p2≠p:=λz=>by subst z;rw [tz] at h4;cases h4
  rw [sO ne] at h4
  exact ⟨p2,xs,h1,h2,h3,h4,h5⟩
 | own ds=>exact mt ds e2
 | bor ds=>exact mt ds e2
 | fro ds =>
  obtain ⟨p2,xs,f1,f2,f3,f4⟩:=e2
  have ne:p2≠p:=λz=>by rw [z,tz] at f3;cases f3
  rw [sO ne] at f3
  exact ⟨p2,xs,f1,f2,f3,f4⟩
theorem Grow.unguard {I':Hp}{p:Addr}{o:HO} (g:Grow (upd G p o) I I'):Grow G I I':=⟨g.up,λb u q=>by
 rcases g.new b u q with z | z
 ·exact .inl z
 ·by_cases e:b=p
  ·subst e;rw [tz] at z;cases z
  ·rw [sO e] at z;exact .inr z⟩
theorem Grow.keepsOut {I':Hp}{p:Addr}{o:HO} (g:Grow (upd G p o) I I') (hi:I p=none):I' p=none:=by
 cases e:I' p with
 | none=>rfl
 | some u =>
  rcases g.new p u e with z | z
  ·rw [hi] at z;cases z
  ·rw [tz] at z;cases z
end
section
variable {X:Cx}{B:BB}{tg bG iter:Expr}{bg:List Expr}{scope:Scope}{pos:Pos}{N':List Str}{m:Nat}{it:M (List D)}{aB:D->M Unit}{ts:M Bool}{el:M D}
def TDs (X:Cx) (B:BB) (bg:List Expr) (g:M Bool):Prop:=PTs X bg (tTD X.K B g)
theorem ub:TDs X B [] (ret true):=λaa s U H Q I h=>Mp aa s U H Q I (by
 obtain ⟨G,I,Y,b,af,r,e1,k⟩:=h
 cases e1
 exact k _ _ r (Grow.refl _ _))
theorem uu {c:Expr}{g:M Bool} (h:TD X B c g):TDs X B [c] g:=Mg h
theorem B5 {K:PySem.W.Frag}:∀ U H Q,tO K B (compO m it aB ts el) U H Q->tComp m (tI K B it) (tGD K (bUp m B) m aB) (tTD K (bUp m B) ts) (tD K (bUp m B) el) U H Q:=λU H Q q=>by
 obtain ⟨G,I,Y,rs,af,r,e1,k⟩:=q
 obtain ⟨ds,ab,e2,e3⟩:=sN e1
 by_cases fx:ds.length<=lim
 case neg=>rw [if_neg fx] at e3;cases e3
 rw [if_pos fx] at e3
 obtain ⟨cE,e4,rfl⟩:=Hj e3
 refine ⟨G,I,Y,ds,ab,r,e2,λJ H1 I1 r1 g1 y p hp=>?_⟩
 have gp:=r1.gFree hp
 have ip:=r1.iFree hp
 refine ⟨λi n aj H'=>∃ ae ad I2 ah am,Rep K (bUp m B) (upd G p (.lst ae)) I2 H' aj ah/\Grow G I1 I2/\I2 p=none/\IsA K I2 ad ae/\aj.drop m=U/\compM aB ts el (ds.drop i) ah=some (am,cE)/\ad++am=rs/\ad.length<=i/\i<=ds.length/\n=ds.length - i,
  ⟨ds.length,[],[],I1,_,rs,(r1.up m).guard hp _,Grow.refl _ _,ip,IsA.nil,by rw [List.drop_append_of_le_length (by simp),drop_of_length_le (by simp),nil_append],by simpa using e4,rfl,zero_le _,zero_le _,rfl⟩,?_⟩
 rintro i n aW H2 ⟨ae,ad,I2,ah,am,r2,g2,j7,ha,hs,e5,rfl,rQ,hi,rfl⟩
 obtain ⟨yg,ys⟩:=y i H2 (g2.up.trans r2.iH)
 by_cases bE:i < ds.length
 ·have hd:ds.drop i=ds[i]::ds.drop (i+1):=drop_eq_getElem_cons bE
  obtain ⟨go,yld⟩:=yg ds[i] (getElem?_eq_getElem bE)
  rw [hd,compM] at e5
  obtain ⟨u,aR,e6,e7⟩:=sN e5
  obtain ⟨b,aP,e8,e9⟩:=sN e7
  refine .inr ⟨go,λx H3 hy=>?_⟩
  have main:∀ I3,Rep K (bUp m B) (upd G p (.lst ae)) I3 H3 aW ah->Grow (upd G p (.lst ae)) I2 I3->Is K I3 ds[i] x->tGD K (bUp m B) m aB x aW H3 λaW H3=>tTD K (bUp m B) ts aW H3 λb H4 =>
    if b=true then tD K (bUp m B) el aW H4 λy H5=>∃ ae,H5 p=some (.lst ae)/\ae.length < sizeLine/\∃ n',n' < ds.length - i/\∃ acc_1 ad_1 I2 ah rest_1,Rep K (bUp m B) (upd G p (.lst acc_1)) I2 (upd H5 p (.lst (ae++[y]))) aW ah/\Grow G I1 I2/\I2 p=none/\IsA K I2 ad_1 acc_1/\aW.drop m=U/\compM aB ts el (ds.drop (i+1)) ah=some (rest_1,cE)/\ad_1++rest_1=ad++am/\ad_1.length<=i+1/\i+1<=ds.length/\n'=ds.length - (i+1)
    else ∃ n',n' < ds.length - i/\∃ ae ad_1 I2 ah rest_1,Rep K (bUp m B) (upd G p (.lst ae)) I2 H4 aW ah/\Grow G I1 I2/\I2 p=none/\IsA K I2 ad_1 ae/\aW.drop m=U/\compM aB ts el (ds.drop (i+1)) ah=some (rest_1,cE)/\ad_1++rest_1=ad++am/\ad_1.length<=i+1/\i+1<=ds.length/\n'=ds.length - (i+1):=by
   intro I3 r3 g3 hx
   refine ⟨_,I3,ah,ds[i],aR,r3,hx,e6,λlU H4 I4 r4 g4 oZ=>⟨_,I4,aR,b,aP,r4,e8,λH5 I5 r5 g5=>?_⟩⟩
   have iG:=g3.trans (g4.trans g5)
   have fN:lU.drop m=U:=oZ.trans hs
   cases b with
   | false =>
    refine iteF ⟨ds.length - (i+1),by omega,ae,ad,I5,aP,am,r5,g2.trans iG.unguard,iG.keepsOut j7,ha.mono iG.up,fN,by simpa using e9,rfl,by omega,bE,rfl⟩
   | true =>
    simp only [if_true] at e9
    obtain ⟨xd,dU,f1,f2⟩:=sN e9
    obtain ⟨rr,gD,f3,f4⟩:=sN f2
    cases f4
    refine iteT ⟨_,I5,aP,xd,dU,r5,f1,λyv H6 I6 r6 g6 o0=>⟨ae,r6.gH _ _ tz,?_,ds.length - (i+1),by omega,ae++[yv],ad++[xd],I6,dU,rr,?_⟩⟩
    ·rw [← ha.length]
     have h1:lim < sizeLine:=by rw [sizeLine_eq];decide
     omega
    ·have j8:=iG.trans g6
     have ma:=j8.keepsOut j7
     exact ⟨r6.reguard ma,g2.trans j8.unguard,ma,IsA.append (ha.mono j8.up) (IsA.cons o0 IsA.nil),fN,f3,by rw [append_assoc];rfl,by rw [length_append,List.length_singleton];omega,bE,rfl⟩
  rcases yld x H3 hy with ⟨rfl,hx⟩ | ⟨p2,es,xs,dz,rfl,eQ,rfl,hx⟩
  ·exact main I2 r2 (Grow.refl _ _) (hx.mono g2.up)
  ·refine main _ (r2.alloc eQ _) (r2.growAlloc eQ _) ?_
   rw [dz]
   exact Is.tup (SqT.of tz) ((hx.mono g2.up).mono (tY (r2.iFree eQ) _))
 ·have bQ:i=ds.length:=by omega
  subst bQ
  rw [List.drop_length] at e5
  cases e5
  rw [append_nil] at k
  refine .inl ⟨ys (le_refl _),?_⟩
  have rd:=Rep.down r2 hs
  obtain ⟨ru,ap⟩:=rd.unguard gp
  exact k p ae H2 I2 ru (g1.trans g2) (r2.gH _ _ tz) j7 gp ap ha
theorem tR (S:CompScope X.env.scope scope X.N N' m) (hc:X.calm=true) (hi:ITD X B tg iter it)
  (hg:∀ C s H ex,GD (cxC X scope N' C s H ex) (bUp m B) m tg aB) (ht:∀ C s H ex,TDs (cxC X scope N' C s H ex) (bUp m B) bg ts) (he:∀ C s H ex,ED (cxC X scope N' C s H ex) (bUp m B) bG el)
  (hs:∀ x,foldedSetIterable iter X.env x=pure x:=by intro _;rfl):EO X B (.ListComp bG [⟨tg,iter,bg,0⟩] scope pos) (compO m it aB ts el):=PE.imp (GA (g:=tGD X.K (bUp m B) m aB) (tt:=tTD X.K (bUp m B) ts) (te:=tD X.K (bUp m B) el) S hc hi hg ht he hs) B5
theorem vD {i:Nat}{y:Str}{py dY:Pos} (S:CompScope X.env.scope scope X.N N' m) (hc:X.calm=true) (hN:X.N.Nodup) (hi:ITD X B tg iter it)
  (hg:∀ C s H ex,GD (cxC X scope N' C s H ex) (bUp m B) m tg aB) (ht:∀ C s H ex,TDs (cxC X scope N' C s H ex) (bUp m B) bg ts) (he:∀ C s H ex,ED (cxC X scope N' C s H ex) (bUp m B) bG el)
  (ba:X.N[i]?=some y:=by rfl) (hy:X.env.scope.names.lookup y=some .local:=by rfl) (j5:swapsWith (.ListComp bG [⟨tg,iter,bg,0⟩] scope pos) (some (.Name y py)) dY.line X.env=pure true:=by rfl)
  (hs:∀ x,foldedSetIterable iter X.env x=pure x:=by intro _;rfl):SD X B (.Assign [.Name y py] (.ListComp bG [⟨tg,iter,bg,0⟩] scope pos) dY) (setV i (frz (compO m it aB ts el))):=PS.imp (Kl (g:=tGD X.K (bUp m B) m aB) (tt:=tTD X.K (bUp m B) ts) (te:=tD X.K (bUp m B) el) S hc hN ba hy hi hg ht he j5 hs) λE U H q=>by
 obtain ⟨G,I,Y,f,af,r,e1,k⟩:=q
 obtain ⟨d1,ab,e2,e3⟩:=sN e1
 obtain ⟨d2,ah,e4,e5⟩:=sN e3
 cases e5
 obtain ⟨hl,rfl⟩:=xk e4
 obtain ⟨ds,aR,e6,e7⟩:=sN e2
 cases e7
 refine B5 U H _ ⟨G,I,Y,ds,_,r,e6,λp xs H1 I1 r1 g1 h1 h2 h3 h4 h5=>?_⟩
 refine k _ H1 _ ((r1.freeze h1 h2 h4).store (by rw [r1.len];exact hl) (Is.lst (RdK.of tz) (h5.mono (tY h2 _))) (λm=>nomatch m) (λ_ z=>nomatch z)) (g1.trans (growFreeze h2 h3))
end
mutual
noncomputable def deq:D->D->Bool
 | .non,.non=>true
 | .bl a,.bl b=>a == b
 | .bl a,.int j=>(if a then (1:Int) else 0) == j
 | .int i,.bl b=>i == (if b then (1:Int) else 0)
 | .int i,.int j=>i == j
 | .str x,.str y=>x == y
 | .tup xs,.tup ys=>deqA xs ys
 | .lst xs,.lst ys=>deqA xs ys
 | _,_=>false
noncomputable def deqA:List D->List D->Bool
 | [],[]=>true
 | x::xs,y::ys=>deq x y&&deqA xs ys
 | _,_=>false
end
mutual
noncomputable def dep:D->Nat
 | .tup xs=>depA xs+1
 | .lst xs=>depA xs+1
 | _=>0
noncomputable def depA:List D->Nat
 | []=>0
 | x::xs=>max (dep x) (depA xs)
end
mutual
theorem wG:∀ a:D,deq a a=true
 | .non=>by rw [deq]
 | .bl b=>by rw [deq];exact beq_self_eq_true b
 | .int b=>by rw [deq];exact beq_self_eq_true b
 | .str b=>by rw [deq];exact beq_self_eq_true b
 | .tup xs=>by rw [deq];exact wn xs
 | .lst xs=>by rw [deq];exact wn xs
theorem wn:∀ a:List D,deqA a a=true
 | []=>by rw [deqA]
 | x::xs=>by rw [deqA,wG x,wn xs];rfl
end
theorem uC:∀ {xs:List D}{x:D},x∈xs->dep x<=depA xs
 | y::ys,x,h=>by
  rw [depA]
  rcases mem_cons.mp h with rfl | h
  ·omega
  ·have:=uC h;omega
theorem xj:∀ (xs ys:List D),((range (min xs.length ys.length)).all (λj=>deq (xs.getD j .non) (ys.getD j .non))&&(xs.length == ys.length))=deqA xs ys
 | [],[]=>by rw [deqA];rfl
 | [],y::ys=>by rw [deqA]<;>simp
 | x::xs,[]=>by rw [deqA]<;>simp
 | x::xs,y::ys=>by
  have ih:=xj xs ys
  have e:min (x::xs).length (y::ys).length=min xs.length ys.length+1:=by simp only [length_cons];omega
  rw [deqA,← ih,e,range_succ_eq_map,all_cons,List.all_map]
  have e2:((x::xs).length == (y::ys).length)=(xs.length == ys.length):=by
   simp only [length_cons]
   cases h:xs.length == ys.length
   ·simp at h ⊢;omega
   ·simp at h ⊢;omega
  rw [e2,Bool.and_assoc]
  rfl
theorem Lw {xs ys:List D} (h:xs.length≠ys.length):deqA xs ys=false:=by
 rw [← xj]
 have:(xs.length == ys.length)=false:=by simpa using h
 rw [this,Bool.and_false]
section
variable {X:Cx}{aa:List (Addr×Obj)}{U:L2.St}{H:Hp}{s:Shared}
theorem IsA.getU {K:PySem.W.Frag}{I:Hp}{ds:List D}{xs:List V}{us:List Value} (h:IsA K I ds xs) (r:Vals xs us){j:Nat} (hj:j < us.toArray.size):∃ v,RelV v us.toArray[j]/\Is K I (ds.getD j .non) v:=by
 have h1:=h.length
 have h2:=r.length
 have br:j < us.length:=by simpa using hj
 have hd:ds[j]?=some ds[j]:=getElem?_eq_getElem (by omega)
 obtain ⟨v,e1,e2⟩:=h.get hd
 obtain ⟨u,e3,e4⟩:=r.get e1
 have e5:us.toArray[j]=u:=by
  rw [getElem?_eq_getElem br] at e3
  simpa using e3
 refine ⟨v,by rw [e5];exact e4,?_⟩
 rw [getD_eq_getElem?_getD,hd]
 exact e2
theorem rdL {a:Addr}{xs:List V}{K:PySem.W.Frag} (h:RdK K H a xs):SqL K H a xs:=h.sq
mutual
theorem wu (I:Inv X aa U H s):∀ {a b:D}{v:V},Is X.K H a v->Is X.K H b v->a=b
 | .non,b,v,h,h'=>by
  have e:=uf h;subst e
  cases b<;>first | rfl | (rw [Is] at h';obtain ⟨_,_,e,_⟩:=h';cases e) | (rw [Is] at h';cases h')
 | .bl x,b,v,h,h'=>by
  have e:=tV h;subst e
  cases b<;>first | (rw [Is] at h';obtain ⟨_,_,e,_⟩:=h';cases e) | (rw [Is] at h';cases h';rfl) | (rw [Is] at h';cases h')
 | .int x,b,v,h,h'=>by
  have e:=sV h;subst e
  cases b<;>first | (rw [Is] at h';obtain ⟨_,_,e,_⟩:=h';cases e) | (rw [Is] at h';cases h';rfl) | (rw [Is] at h';cases h')
 | .str x,b,v,h,h'=>by
  have e:=uo h;subst e
  cases b<;>first | (rw [Is] at h';obtain ⟨_,_,e,_⟩:=h';cases e) | (rw [Is] at h';cases h';rfl) | (rw [Is] at h';cases h')
 | .tup ds,b,v,h,h'=>by
  obtain ⟨p,xs,rfl,h1,h2⟩:=sZ h
  cases b with
  | tup es =>
   obtain ⟨p',bN,e,h3,h4⟩:=sZ h'
   cases e
   have:=I.tuple_inj h1 h3
   subst this
   rw [zB I h2 h4]
  | lst es =>
   obtain ⟨p',bN,e,h3,h4⟩:=tm h'
   cases e
   obtain ⟨i1,_,t1,_⟩:=I.tuple h1
   obtain ⟨i2,_,t2,_⟩:=I.list (rdL h3)
   exact absurd rfl (ne_of_list_tuple t2.isList t1)
  | _=>rw [Is] at h';cases h'
 | .lst ds,b,v,h,h'=>by
  obtain ⟨p,xs,rfl,h1,h2⟩:=tm h
  cases b with
  | lst es =>
   obtain ⟨p',bN,e,h3,h4⟩:=tm h'
   cases e
   have:=I.list_inj (rdL h1) (rdL h3)
   subst this
   rw [zB I h2 h4]
  | tup es =>
   obtain ⟨p',bN,e,h3,h4⟩:=sZ h'
   cases e
   obtain ⟨i1,_,t1,_⟩:=I.tuple h3
   obtain ⟨i2,_,t2,_⟩:=I.list (rdL h1)
   exact absurd rfl (ne_of_list_tuple t2.isList t1)
  | _=>rw [Is] at h';cases h'
theorem zB (I:Inv X aa U H s):∀ {a b:List D}{v:List V},IsA X.K H a v->IsA X.K H b v->a=b
 | [],b,v,h,h'=>by
  have e:=h.nil_inv;subst e
  cases b with
  | nil=>rfl
  | cons d r=>obtain ⟨_,_,e,_⟩:=h'.cons_inv;cases e
 | d::ds,b,v,h,h'=>by
  obtain ⟨x,r,rfl,h1,h2⟩:=h.cons_inv
  cases b with
  | nil=>have:=h'.nil_inv;cases this
  | cons e es =>
   obtain ⟨x',r',e',h3,h4⟩:=h'.cons_inv
   cases e'
   rw [wu I h1 h3,zB I h2 h4]
end
open PySem.SeqAt in
theorem Cp (I:Inv X aa U H s){A:Around} (hu:A.units < cLine){a b:D}{x y:V}{u v:Value} (ha:Is X.K H a x) (hb:Is X.K H b y) (ru:RelV x u) (rv:RelV y v)
  (ht:∀ xs ys,a=.tup xs->b=.tup ys->RcAt A s u v (deq a b)/\EqAt A s u v (deq a b)/\RcNeAt A s u v (!deq a b))
  (hl:∀ xs ys,a=.lst xs->b=.lst ys->RcAt A s u v (deq a b)/\EqAt A s u v (deq a b)/\RcNeAt A s u v (!deq a b)):RcAt A s u v (deq a b)/\EqAt A s u v (deq a b)/\RcNeAt A s u v (!deq a b):=by
 cases a with
 | non =>
  have e:=uf ha;subst e;cases ru
  cases b with
  | non=>have e:=uf hb;subst e;cases rv;rw [deq];exact ⟨.none_none,.same _,.none_none⟩
  | bl j=>have e:=tV hb;subst e;cases rv;rw [deq]<;>first | exact ⟨.none_bool _,.none_bool _,.none_bool _⟩ | (intros;contradiction)
  | int j=>have e:=sV hb;subst e;obtain ⟨t,rfl⟩:=rv;rw [deq]<;>first | exact ⟨.none_int _ _,.none_int _ _,.none_int _ _⟩ | (intros;contradiction)
  | str j=>have e:=uo hb;subst e;obtain ⟨t,rfl⟩:=rv;rw [deq]<;>first | exact ⟨.none_str _ _,.none_str _ _,.none_str _ _⟩ | (intros;contradiction)
  | tup j =>
   obtain ⟨p,xs,rfl,h1,h2⟩:=sZ hb;cases rv
   obtain ⟨ac,_,t,_⟩:=I.tuple h1
   rw [deq]<;>first | exact ⟨.none_tuple t hu,.none_tuple t hu,.none_tuple t hu⟩ | (intros;contradiction)
  | lst j =>
   obtain ⟨p,xs,rfl,h1,h2⟩:=tm hb;cases rv
   obtain ⟨ac,_,t,_⟩:=I.list (rdL h1)
   have t:=t.isList
   rw [deq]<;>first | exact ⟨.none_list t hu,.none_list t hu,.none_list t hu⟩ | (intros;contradiction)
 | bl i =>
  have e:=tV ha;subst e;cases ru
  cases b with
  | non=>have e:=uf hb;subst e;cases rv;rw [deq]<;>first | exact ⟨.bool_none _,.bool_none _,.bool_none _⟩ | (intros;contradiction)
  | bl j=>have e:=tV hb;subst e;cases rv;rw [deq];exact ⟨.bool_bool _ _,.bool_bool _ _,.bool_bool _ _⟩
  | int j=>have e:=sV hb;subst e;obtain ⟨t,rfl⟩:=rv;rw [deq];exact ⟨.bool_int _ _ _,.bool_int _ _ _,.bool_int _ _ _⟩
  | str j=>have e:=uo hb;subst e;obtain ⟨t,rfl⟩:=rv;rw [deq]<;>first | exact ⟨.bool_str _ _ _,.bool_str _ _ _,.bool_str _ _ _⟩ | (intros;contradiction)
  | tup j =>
   obtain ⟨p,xs,rfl,h1,h2⟩:=sZ hb;cases rv
   obtain ⟨ac,_,t,_⟩:=I.tuple h1
   rw [deq]<;>first | exact ⟨.bool_tuple _ t hu,.bool_tuple _ t hu,.bool_tuple _ t hu⟩ | (intros;contradiction)
  | lst j =>
   obtain ⟨p,xs,rfl,h1,h2⟩:=tm hb;cases rv
   obtain ⟨ac,_,t,_⟩:=I.list (rdL h1)
   have t:=t.isList
   rw [deq]<;>first | exact ⟨.bool_list _ t hu,.bool_list _ t hu,.bool_list _ t hu⟩ | (intros;contradiction)
 | int i =>
  have e:=sV ha;subst e;obtain ⟨t0,rfl⟩:=ru
  cases b with
  | non=>have e:=uf hb;subst e;cases rv;rw [deq]<;>first | exact ⟨.int_none _ _,.int_none _ _,.int_none _ _⟩ | (intros;contradiction)
  | bl j=>have e:=tV hb;subst e;cases rv;rw [deq];exact ⟨.int_bool _ _ _,.int_bool _ _ _,.int_bool _ _ _⟩
  | int j=>have e:=sV hb;subst e;obtain ⟨t,rfl⟩:=rv;rw [deq];exact ⟨.int_int _ _ _ _,.int_int _ _ _ _,.int_int _ _ _ _⟩
  | str j=>have e:=uo hb;subst e;obtain ⟨t,rfl⟩:=rv;rw [deq]<;>first | exact ⟨.int_str _ _ _ _,.int_str _ _ _ _,.int_str _ _ _ _⟩ | (intros;contradiction)
  | tup j =>
   obtain ⟨p,xs,rfl,h1,h2⟩:=sZ hb;cases rv
   obtain ⟨ac,_,t,_⟩:=I.tuple h1
   rw [deq]<;>first | exact ⟨.int_tuple _ _ t hu,.int_tuple _ _ t hu,.int_tuple _ _ t hu⟩ | (intros;contradiction)
  | lst j =>
   obtain ⟨p,xs,rfl,h1,h2⟩:=tm hb;cases rv
   obtain ⟨ac,_,t,_⟩:=I.list (rdL h1)
   have t:=t.isList
   rw [deq]<;>first | exact ⟨.int_list _ _ t hu,.int_list _ _ t hu,.int_list _ _ t hu⟩ | (intros;contradiction)
 | str i =>
  have e:=uo ha;subst e;obtain ⟨t0,rfl⟩:=ru
  cases b with
  | non=>have e:=uf hb;subst e;cases rv;rw [deq]<;>first | exact ⟨.str_none _ _,.str_none _ _,.str_none _ _⟩ | (intros;contradiction)
  | bl j=>have e:=tV hb;subst e;cases rv;rw [deq]<;>first | exact ⟨.str_bool _ _ _,.str_bool _ _ _,.str_bool _ _ _⟩ | (intros;contradiction)
  | int j=>have e:=sV hb;subst e;obtain ⟨t,rfl⟩:=rv;rw [deq]<;>first | exact ⟨.str_int _ _ _ _,.str_int _ _ _ _,.str_int _ _ _ _⟩ | (intros;contradiction)
  | str j=>have e:=uo hb;subst e;obtain ⟨t,rfl⟩:=rv;rw [deq];exact ⟨.str_str _ _ _ _,.str_str _ _ _ _,.str_str _ _ _ _⟩
  | tup j =>
   obtain ⟨p,xs,rfl,h1,h2⟩:=sZ hb;cases rv
   obtain ⟨ac,_,t,_⟩:=I.tuple h1
   rw [deq]<;>first | exact ⟨.str_tuple _ _ t hu,.str_tuple _ _ t hu,.str_tuple _ _ t hu⟩ | (intros;contradiction)
  | lst j =>
   obtain ⟨p,xs,rfl,h1,h2⟩:=tm hb;cases rv
   obtain ⟨ac,_,t,_⟩:=I.list (rdL h1)
   have t:=t.isList
   rw [deq]<;>first | exact ⟨.str_list _ _ t hu,.str_list _ _ t hu,.str_list _ _ t hu⟩ | (intros;contradiction)
 | tup i =>
  obtain ⟨q,ys,rfl,g1,g2⟩:=sZ ha;cases ru
  obtain ⟨bu,_,t',_⟩:=I.tuple g1
  cases b with
  | non=>have e:=uf hb;subst e;cases rv;rw [deq]<;>first | exact ⟨.tuple_none t' hu,.tuple_none t' hu,.tuple_none t' hu⟩ | (intros;contradiction)
  | bl j=>have e:=tV hb;subst e;cases rv;rw [deq]<;>first | exact ⟨.tuple_bool _ t' hu,.tuple_bool _ t' hu,.tuple_bool _ t' hu⟩ | (intros;contradiction)
  | int j=>have e:=sV hb;subst e;obtain ⟨t,rfl⟩:=rv;rw [deq]<;>first | exact ⟨.tuple_int _ _ t' hu,.tuple_int _ _ t' hu,.tuple_int _ _ t' hu⟩ | (intros;contradiction)
  | str j=>have e:=uo hb;subst e;obtain ⟨t,rfl⟩:=rv;rw [deq]<;>first | exact ⟨.tuple_str _ _ t' hu,.tuple_str _ _ t' hu,.tuple_str _ _ t' hu⟩ | (intros;contradiction)
  | tup j=>exact ht _ _ rfl rfl
  | lst j =>
   obtain ⟨p,xs,rfl,h1,h2⟩:=tm hb;cases rv
   obtain ⟨ac,_,t,_⟩:=I.list (rdL h1)
   have t:=t.isList
   rw [deq]<;>first | exact ⟨.tuple_list t' t hu,.tuple_list t' t hu,.tuple_list t' t hu⟩ | (intros;contradiction)
 | lst i =>
  obtain ⟨q,ys,rfl,g1,g2⟩:=tm ha;cases ru
  obtain ⟨bu,_,t',_⟩:=I.list (rdL g1)
  have t':=t'.isList
  cases b with
  | non=>have e:=uf hb;subst e;cases rv;rw [deq]<;>first | exact ⟨.list_none t' hu,.list_none t' hu,.list_none t' hu⟩ | (intros;contradiction)
  | bl j=>have e:=tV hb;subst e;cases rv;rw [deq]<;>first | exact ⟨.list_bool _ t' hu,.list_bool _ t' hu,.list_bool _ t' hu⟩ | (intros;contradiction)
  | int j=>have e:=sV hb;subst e;obtain ⟨t,rfl⟩:=rv;rw [deq]<;>first | exact ⟨.list_int _ _ t' hu,.list_int _ _ t' hu,.list_int _ _ t' hu⟩ | (intros;contradiction)
  | str j=>have e:=uo hb;subst e;obtain ⟨t,rfl⟩:=rv;rw [deq]<;>first | exact ⟨.list_str _ _ t' hu,.list_str _ _ t' hu,.list_str _ _ t' hu⟩ | (intros;contradiction)
  | lst j=>exact hl _ _ rfl rfl
  | tup j =>
   obtain ⟨p,xs,rfl,h1,h2⟩:=sZ hb;cases rv
   obtain ⟨ac,_,t,_⟩:=I.tuple h1
   rw [deq]<;>first | exact ⟨.list_tuple t' t hu,.list_tuple t' t hu,.list_tuple t' t hu⟩ | (intros;contradiction)
open PySem.SeqAt in
theorem vq (I:Inv X aa U H s):∀ (n:Nat) (A:Around),A.units+n < cLine->∀ (a b:D) (x y:V) (u v:Value),dep a<=n\/dep b<=n->Is X.K H a x->Is X.K H b y->RelV x u->RelV y v->RcAt A s u v (deq a b)/\EqAt A s u v (deq a b)/\RcNeAt A s u v (!deq a b):=by
 intro n
 induction n with
 | zero =>
  intro A hu a b x y u v hd ha hb ru rv
  refine Cp I (by omega) ha hb ru rv (λxs ys e1 e2=>?_) (λxs ys e1 e2=>?_)<;>(subst e1;subst e2;rw [dep,dep] at hd;omega)
 | succ n ih =>
  intro A hu a b x y u v hd ha hb ru rv
  have eT:A.in1.units+n < cLine:=by show A.units+1+n < cLine;omega
  refine Cp I (by omega) ha hb ru rv (λds es e1 e2=>?_) (λds es e1 e2=>?_)
  ·subst e1;subst e2
   obtain ⟨p,xs,rfl,h1,h2⟩:=sZ ha
   obtain ⟨q,ys,rfl,h3,h4⟩:=sZ hb
   cases ru;cases rv
   obtain ⟨ac,r1,t1,_⟩:=I.tuple h1
   obtain ⟨bu,r2,t2,_⟩:=I.tuple h3
   have l1:ac.toArray.size=ds.length:=by rw [size_toArray,← r1.length,h2.length]
   have l2:bu.toArray.size=es.length:=by rw [size_toArray,← r2.length,h4.length]
   have hk:∀ j (g1:j < ac.toArray.size) (g2:j < bu.toArray.size),EqAt A.in1 s ac.toArray[j] bu.toArray[j] (deq (ds.getD j .non) (es.getD j .non)):=λj g1 g2=>by
    obtain ⟨v1,q1,q2⟩:=h2.getU r1 g1
    obtain ⟨v2,q3,q4⟩:=h4.getU r2 g2
    refine (ih A.in1 eT _ _ _ _ _ _ ?_ q2 q4 q1 q3).2.1
    have m1:ds.getD j .non∈ds:=by
     rw [getD_eq_getElem?_getD,getElem?_eq_getElem (by omega)]
     exact getElem_mem _
    have m2:es.getD j .non∈es:=by
     rw [getD_eq_getElem?_getD,getElem?_eq_getElem (by omega)]
     exact getElem_mem _
    have k1:=uC m1
    have k2:=uC m2
    rw [dep,dep] at hd
    omega
   have re:((range (min ac.toArray.size bu.toArray.size)).all (λj=>deq (ds.getD j .non) (es.getD j .non))&&ac.toArray.size == bu.toArray.size)=deqA ds es:=by
    rw [l1,l2];exact xj ds es
   have R1:=RcAt.tuples (A:=A) t1 t2 (by omega) hk
   have R3:=RcNeAt.tuples (A:=A) t1 t2 (by omega) hk
   rw [re] at R1 R3
   have ed:deq (.tup ds) (.tup es)=deqA ds es:=by rw [deq]
   rw [ed]
   refine ⟨R1,?_,R3⟩
   by_cases hpq:p=q
   ·subst hpq
    have:=wu I ha hb
    cases this
    rw [wn]
    exact .same _
   ·exact .of_refs hpq R1
  ·subst e1;subst e2
   obtain ⟨p,xs,rfl,h1,h2⟩:=tm ha
   obtain ⟨q,ys,rfl,h3,h4⟩:=tm hb
   cases ru;cases rv
   obtain ⟨ac,r1,t1,_⟩:=I.list (rdL h1)
   obtain ⟨bu,r2,t2,_⟩:=I.list (rdL h3)
   have t1:=t1.isList
   have t2:=t2.isList
   have l1:ac.toArray.size=ds.length:=by rw [size_toArray,← r1.length,h2.length]
   have l2:bu.toArray.size=es.length:=by rw [size_toArray,← r2.length,h4.length]
   have ed:deq (.lst ds) (.lst es)=deqA ds es:=by rw [deq]
   rw [ed]
   have fin:RcAt A s (.ref p) (.ref q) (deqA ds es)/\RcNeAt A s (.ref p) (.ref q) (!deqA ds es):=by
    by_cases hl:ds.length=es.length
    ·have hk:∀ j (g1:j < ac.toArray.size) (g2:j < bu.toArray.size),EqAt A.in1 s ac.toArray[j] bu.toArray[j] (deq (ds.getD j .non) (es.getD j .non)):=λj g1 g2=>by
      obtain ⟨v1,q1,q2⟩:=h2.getU r1 g1
      obtain ⟨v2,q3,q4⟩:=h4.getU r2 g2
      refine (ih A.in1 eT _ _ _ _ _ _ ?_ q2 q4 q1 q3).2.1
      have m1:ds.getD j .non∈ds:=by
       rw [getD_eq_getElem?_getD,getElem?_eq_getElem (by omega)]
       exact getElem_mem _
      have m2:es.getD j .non∈es:=by
       rw [getD_eq_getElem?_getD,getElem?_eq_getElem (by omega)]
       exact getElem_mem _
      have k1:=uC m1
      have k2:=uC m2
      rw [dep,dep] at hd
      omega
     have re:(range ac.toArray.size).all (λj=>deq (ds.getD j .non) (es.getD j .non))=deqA ds es:=by
      rw [← xj ds es,l1,hl,Nat.min_self,beq_self_eq_true,Bool.and_true]
     have R1:=RcAt.lists (A:=A) t1 t2 (by omega) (by omega) hk
     have R3:=RcNeAt.lists (A:=A) t1 t2 (by omega) (by omega) hk
     rw [re] at R1 R3
     exact ⟨R1,R3⟩
    ·rw [Lw hl]
     have dF:(ac.toArray.size != bu.toArray.size)=true:=by rw [l1,l2];simpa using hl
     exact ⟨.lists_lengths t1 t2 dF (by omega),.lists_lengths t1 t2 dF (by omega)⟩
   refine ⟨fin.1,?_,fin.2⟩
   by_cases hpq:p=q
   ·subst hpq
    have:=wu I ha hb
    cases this
    rw [wn]
    exact .same _
   ·exact .of_refs hpq fin.1
noncomputable def rEqD (K:PySem.W.Frag) (neg:Bool):R2:=λx y H Q=>∃ a b,Is K H a x/\Is K H b y/\(dep a<=100\/dep b<=100)/\Q (.bl (if neg then !deq a b else deq a b)) H
theorem BW (hu:X.A.units+100 < cLine):OpR X (compareOp .Eq) (rEqD X.K false):=by
 intro aa s U H x y v u Q I rx ry h
 obtain ⟨a,b,h1,h2,h3,q⟩:=h
 exact (vq I 100 X.A hu a b x y v u h3 h1 h2 rx ry).1 _ _ _ _ ⟨.bl (deq a b),H,I,rfl,q⟩
theorem zx (hu:X.A.units+100 < cLine):OpR X (compareOp .NotEq) (rEqD X.K true):=by
 intro aa s U H x y v u Q I rx ry h
 obtain ⟨a,b,h1,h2,h3,q⟩:=h
 exact (vq I 100 X.A hu a b x y v u h3 h1 h2 rx ry).2.2 _ _ _ _ ⟨.bl (!deq a b),H,I,rfl,q⟩
noncomputable def rInD (K:PySem.W.Frag) (neg:Bool):R2:=λx y H Q=>∃ a ds,Is K H a x/\(Is K H (.lst ds) y\/Is K H (.tup ds) y)/\(dep a<=99)/\Q (.bl (if neg then !ds.any (λd=>deq d a) else ds.any λd=>deq d a)) H
theorem JD {K:PySem.W.Frag}{ds:List D}{xs:List V}{us:List Value}{f:D->Bool}{e:Value->Bool} (h:IsA K H ds xs) (r:Vals xs us) (hf:∀ d v u,d∈ds->Is K H d v->RelV v u->e u=f d):us.any e=ds.any f:=by
 induction ds generalizing xs us with
 | nil=>have:=h.nil_inv;subst this;cases r;rfl
 | cons d ds ih =>
  obtain ⟨x,xr,rfl,h1,h2⟩:=h.cons_inv
  cases r with
  | cons r1 r2 =>
   rw [any_cons,any_cons,hf d _ _ mem_cons_self h1 r1,ih h2 r2 λd v u hd=>hf d v u (mem_cons_of_mem _ hd)]
theorem Ed (hu:X.A.units+100 < cLine){neg:Bool}{aa:List (Addr×Obj)}{U:L2.St}{H:Hp}{s:Shared}{x y:V}{v u:Value}{Q:VK} (I:Inv X aa U H s) (rx:RelV x v) (ry:RelV y u) (h:rInD X.K neg x y H Q) :
  ∃ (ac:Array Value) (e:Value->Bool) (l:Addr),u=.ref l/\(s.heap.IsList l ac\/s.heap.IsTuple l ac)/\(∀ z,z∈ac->PySem.SeqAt.EqAt X.A.in1 s z v (e z))/\Q (.bl (if neg then !ac.any e else ac.any e)) H:=by
 obtain ⟨a,ds,h1,h2,h3,q⟩:=h
 have eT:X.A.in1.units+99 < cLine:=by show X.A.units+1+99 < cLine;omega
 -- every item has ac data: e reads it j9
 have aQ:∀ (xs:List V) (ac:List Value),IsA X.K H ds xs->Vals xs ac->∃ e:Value->Bool,(∀ z,z∈ac.toArray->PySem.SeqAt.EqAt X.A.in1 s z v (e z))/\ac.toArray.any e=ds.any λd=>deq d a:=by
  intro xs ac ha r
  have ex:∀ z:Value,∃ b:Bool,∀ d w,d∈ds->Is X.K H d w->RelV w z->b=deq d a:=λz=>by
   by_cases hz:∃ d w,d∈ds/\Is X.K H d w/\RelV w z
   ·obtain ⟨d,w,hd,hi,hr⟩:=hz
    refine ⟨deq d a,λd' w' bK ba o3=>?_⟩
    have:=RelV.inj hr o3
    subst this
    rw [wu I hi ba]
   ·exact ⟨false,λd w hd hi hr=>absurd ⟨d,w,hd,hi,hr⟩ hz⟩
  refine ⟨λz=>(ex z).choose,λz hz=>?_,?_⟩
  ·have o4:z∈ac:=by simpa using hz
   obtain ⟨j,hj,ej⟩:=List.mem_iff_getElem.mp o4
   obtain ⟨w,q1,q2⟩:=ha.getU r (j:=j) (by simpa using hj)
   have me:RelV w z:=by
    have:ac.toArray[j]'(by simpa using hj)=z:=by simpa using ej
    rw [← this];exact q1
   have hm:ds.getD j .non∈ds:=by
    have l1:=ha.length
    have l2:=r.length
    rw [getD_eq_getElem?_getD,getElem?_eq_getElem (by omega)]
    exact getElem_mem _
   show PySem.SeqAt.EqAt X.A.in1 s z v (ex z).choose
   rw [(ex z).choose_spec _ w hm q2 me]
   exact (vq I 99 X.A.in1 eT _ a w x z v (.inr h3) q2 h1 me rx).2.1
  ·have:ac.toArray.any (λz=>(ex z).choose)=ac.any (λz=>(ex z).choose):=by simp
   rw [this]
   exact JD ha r λd w z hd hi hr=>(ex z).choose_spec d w hd hi hr
 rcases h2 with h2 | h2
 ·obtain ⟨l,xs,rfl,g1,g2⟩:=tm h2
  cases ry
  obtain ⟨ac,r,t,_⟩:=I.list (rdL g1)
  obtain ⟨e,k1,k2⟩:=aQ xs ac g2 r
  exact ⟨ac.toArray,e,l,rfl,.inl t.isList,k1,by rw [k2];exact q⟩
 ·obtain ⟨l,xs,rfl,g1,g2⟩:=sZ h2
  cases ry
  obtain ⟨ac,r,t,_⟩:=I.tuple g1
  obtain ⟨e,k1,k2⟩:=aQ xs ac g2 r
  exact ⟨ac.toArray,e,l,rfl,.inr t,k1,by rw [k2];exact q⟩
theorem GC (hu:X.A.units+100 < cLine):OpR X (compareOp .In) (rInD X.K false):=by
 intro aa s U H x y v u Q I rx ry h
 obtain ⟨ac,e,l,rfl,hl,he,q⟩:=Ed hu I rx ry h
 rcases hl with hl | hl
 ·exact PySem.SeqAt.in_listAt e hl he ⟨.bl (ac.any e),H,I,rfl,q⟩
 ·exact PySem.SeqAt.in_tupleAt e hl he ⟨.bl (ac.any e),H,I,rfl,q⟩
theorem CW (hu:X.A.units+100 < cLine):OpR X (compareOp .NotIn) (rInD X.K true):=by
 intro aa s U H x y v u Q I rx ry h
 obtain ⟨ac,e,l,rfl,hl,he,q⟩:=Ed hu I rx ry h
 rcases hl with hl | hl
 ·exact PySem.SeqAt.notIn_listAt e hl he ⟨.bl (!ac.any e),H,I,rfl,q⟩
 ·exact PySem.SeqAt.notIn_tupleAt e hl he ⟨.bl (!ac.any e),H,I,rfl,q⟩
end
end DL
set_option exponentiation.threshold 2000
namespace DL
open PySem PySem.Spec PyProof.Rows L2
noncomputable def intF (C:Int->Int->Bool) (g:Int->Int->D) (a b:D):Option D:=match a,b with
 | .int i,.int j=>if C i j then some (g i j) else none
 | _,_=>none
theorem yu {C:Int->Int->Bool}{g:Int->Int->D}{a b d:D} (h:intF C g a b=some d):∃ i j,a=.int i/\b=.int j/\C i j=true/\d=g i j:=by
 unfold intF at h
 split at h
 ·obtain ⟨h1,h2⟩:=tJ h
  exact ⟨_,_,rfl,rfl,h1,h2⟩
 ·cases h
def tt2 (_ _:Int):Bool:=true
theorem od_I {K:PySem.W.Frag}{C:Int->Int->Prop}{c:Int->Int->Bool}{g:Int->Int->Int} (hc:∀ i j,c i j=true->C i j):OpD K (rI C λi j=>.int (g i j)) (intF c λi j=>.int (g i j)):=λa b d e B G I H U Y x y Q r hx hy k=>by
 obtain ⟨i,j,rfl,rfl,h,rfl⟩:=yu e
 exact ⟨i,j,sV hx,sV hy,hc i j h,k.now r (Is.int _)⟩
theorem Hm {K:PySem.W.Frag}{g:Int->Int->Int}:OpD K (rI0 λi j=>.int (g i j)) (intF tt2 λi j=>.int (g i j)):=λa b d e B G I H U Y x y Q r hx hy k=>by
 obtain ⟨i,j,rfl,rfl,h,rfl⟩:=yu e
 exact ⟨i,j,sV hx,sV hy,k.now r (Is.int _)⟩
theorem vd {K:PySem.W.Frag}{g:Int->Int->Bool}:OpD K (rI0 λi j=>.bl (g i j)) (intF tt2 λi j=>.bl (g i j)):=λa b d e B G I H U Y x y Q r hx hy k=>by
 obtain ⟨i,j,rfl,rfl,h,rfl⟩:=yu e
 exact ⟨i,j,sV hx,sV hy,k.now r (Is.bl _)⟩
def subI:D->D->Option D:=intF tt2 λi j=>.int (i - j)
noncomputable def mulI:D->D->Option D:=intF (λi j=>decide ((-(2 ^ 64) < i/\i < 2 ^ 64)\/(-(2 ^ 64) < j/\j < 2 ^ 64))) λi j=>.int (i*j)
noncomputable def modI:D->D->Option D:=intF (λ_ j=>decide (0 < j)) λi j=>.int (i % j)
noncomputable def divI:D->D->Option D:=intF (λ_ j=>decide (0 < j/\j < 2 ^ 200)) λi j=>.int (i / j)
noncomputable def powI:D->D->Option D:=intF (λi j=>decide (0<=j/\j<=1000000/\i.natAbs < 2 ^ 64)) λi j=>.int (i ^ j.toNat)
noncomputable def ltI:D->D->Option D:=intF tt2 λi j=>.bl (decide (i < j))
noncomputable def leI:D->D->Option D:=intF tt2 λi j=>.bl (decide (i<=j))
noncomputable def gtI:D->D->Option D:=intF tt2 λi j=>.bl (decide (j < i))
noncomputable def geI:D->D->Option D:=intF tt2 λi j=>.bl (decide (j<=i))
section
variable {X:Cx}{B:BB}{a b c e:Expr}{es:List Expr}{pos:Pos}{ga gb gc:M D}
theorem ud (ha:ED X B a ga) (hb:ED X B b gb):ED X B (.BinOp a .Sub b pos) (op2 subI ga gb):=vM IL Hm ha hb
theorem ux (ha:ED X B a ga) (hb:ED X B b gb):ED X B (.BinOp a .Mult b pos) (op2 mulI ga gb):=vM Lb (od_I (C:=CMul) λi j h=>(of_decide_eq_true h:_\/_)) ha hb
theorem uz (ha:ED X B a ga) (hb:ED X B b gb):ED X B (.BinOp a .Mod b pos) (op2 modI ga gb):=vM Il (od_I λi j h=>of_decide_eq_true h) ha hb
theorem wg (ha:ED X B a ga) (hb:ED X B b gb):ED X B (.BinOp a .Pow b pos) (op2 powI ga gb):=vM IZ (od_I (C:=CPow) λi j h=>(of_decide_eq_true h:_/\_/\_)) ha hb
def CDivW (i j:Int):Prop:=0 < j/\j < 2 ^ 200
theorem IA:OpR X (binaryOp .FloorDiv) (rI CDivW λi j=>.int (i / j)):=opI λi j _ _ _ _ _ hc q=>by
 have h1:(0:Int) < j:=hc.1
 have h2:j.natAbs < 2 ^ 200:=by
  have:=hc.2
  omega
 have h4:j.natAbs.log2 < 9000:=by
  have h5:j.natAbs.log2 < 200:=(Nat.log2_lt (by omega)).mpr h2
  omega
 refine floordiv_int (by omega) ?_ (.inl (PyProof.noPylong_of_log2 h4))
 rw [Int.fdiv_eq_ediv_of_nonneg _ (Int.le_of_lt h1)]
 exact q
theorem JK (ha:ED X B a ga) (hb:ED X B b gb):ED X B (.BinOp a .FloorDiv b pos) (op2 divI ga gb):=vM IA (od_I (C:=CDivW) λi j h=>(of_decide_eq_true h:_/\_)) ha hb
theorem Fn (ha:ED X B a ga) (hb:ED X B b gb):ED X B (.Compare a [.Lt] [b] pos) (op2 ltI ga gb):=vJ Bs vd ha hb
theorem AY (ha:ED X B a ga) (hb:ED X B b gb):ED X B (.Compare a [.LtE] [b] pos) (op2 leI ga gb):=vJ zE vd ha hb
theorem uW (ha:ED X B a ga) (hb:ED X B b gb):TD X B (.Compare a [.Lt] [b] pos) (tst (op2 ltI ga gb)):=uJ Bs vd ha hb
theorem yE (ha:ED X B a ga) (hb:ED X B b gb):TD X B (.Compare a [.Gt] [b] pos) (tst (op2 gtI ga gb)):=uJ Hw vd ha hb
theorem Lh (ha:ED X B a ga) (hb:ED X B b gb):TD X B (.Compare a [.GtE] [b] pos) (tst (op2 geI ga gb)):=uJ FA vd ha hb
theorem LI (ha:ED X B a ga) (hb:ED X B b gb) (hc:ED X B c gc) (hm:lastMarks [.LtE,.LtE] [b,c]=false:=by with_unfolding_all rfl):ED X B (.Compare a [.LtE,.LtE] [b,c] pos) (chn leI leI ga gb gc):=Kr zE vd zE vd ha hb hc hm
noncomputable def eqF (neg:Bool) (a b:D):Option D:=if dep a<=100\/dep b<=100 then some (.bl (if neg then !deq a b else deq a b)) else none
theorem xD {K:PySem.W.Frag}{neg:Bool}:OpD K (rEqD K neg) (eqF neg):=λa b d e B G I H U Y x y Q r hx hy k=>by
 obtain ⟨h1,rfl⟩:=tJ e
 exact ⟨a,b,hx.mono r.iH,hy.mono r.iH,h1,k.now r (Is.bl _)⟩
variable {kr:Nat}
theorem hu100 {A:Around}{k:Nat} (hr:Room k A):A.units+100 < cLine:=by have:=hr.un;omega
theorem xu (hr:Room kr X.A) (ha:ED X B a ga) (hb:ED X B b gb):ED X B (.Compare a [.Eq] [b] pos) (op2 (eqF false) ga gb):=vJ (BW (hu100 hr)) xD ha hb
theorem Lx (hr:Room kr X.A) (ha:ED X B a ga) (hb:ED X B b gb):ED X B (.Compare a [.NotEq] [b] pos) (op2 (eqF true) ga gb):=vJ (zx (hu100 hr)) xD ha hb
theorem tH (hr:Room kr X.A) (ha:ED X B a ga) (hb:ED X B b gb):TD X B (.Compare a [.Eq] [b] pos) (tst (op2 (eqF false) ga gb)):=uJ (BW (hu100 hr)) xD ha hb
theorem t7 (hr:Room kr X.A) (ha:ED X B a ga) (hb:ED X B b gb):TD X B (.Compare a [.NotEq] [b] pos) (tst (op2 (eqF true) ga gb)):=uJ (zx (hu100 hr)) xD ha hb
noncomputable def inF (neg:Bool) (a b:D):Option D:=match seqI b with
 | some ds=>if dep a<=99 then some (.bl (if neg then !ds.any (λd=>deq d a) else ds.any λd=>deq d a)) else none
 | none=>none
theorem BI {K:PySem.W.Frag}{neg:Bool}:OpD K (rInD K neg) (inF neg):=λa b d e B G I H U Y x y Q r hx hy k=>by
 unfold inF at e
 cases b with
 | lst ds =>
  obtain ⟨h1,rfl⟩:=tJ e
  exact ⟨a,ds,hx.mono r.iH,.inl (hy.mono r.iH),h1,k.now r (Is.bl _)⟩
 | tup ds =>
  obtain ⟨h1,rfl⟩:=tJ e
  exact ⟨a,ds,hx.mono r.iH,.inr (hy.mono r.iH),h1,k.now r (Is.bl _)⟩
 | _=>cases e
theorem HJ (hr:Room kr X.A) (ha:ED X B a ga) (hb:ED X B b gb) (hm:behindInMarks .In b=false:=by rfl):TD X B (.Compare a [.In] [b] pos) (tst (op2 (inF false) ga gb)):=uJ (GC (hu100 hr)) BI ha hb hm
theorem G9 (hr:Room kr X.A) (ha:ED X B a ga) (hb:ED X B b gb) (hm:behindInMarks .NotIn b=false:=by rfl):TD X B (.Compare a [.NotIn] [b] pos) (tst (op2 (inF true) ga gb)):=uJ (CW (hu100 hr)) BI ha hb hm
noncomputable def rCatTT (K:PySem.W.Frag):R2:=λx y H Q=>∃ a b xs ys,x=.ref a/\y=.ref b/\SqT K H a xs/\SqT K H b ys/\xs.length+ys.length<=sizeLine ∧
 (xs=[]->Q (.ref b) H)/\(xs≠[]->ys=[]->Q (.ref a) H)/\(xs≠[]->ys≠[]->∀ p,H p=none->Q (.ref p) (upd H p (.tup (xs++ys))))
theorem HM:OpR X (binaryOp .Add) (rCatTT X.K):=by
 intro aa s U H x y v u Q I rx ry h
 obtain ⟨a,b,xs,ys,rfl,rfl,ha,hb,hz,q0,q1,q2⟩:=h
 cases rx
 cases ry
 obtain ⟨ac,r1,p1,_⟩:=I.tuple ha
 obtain ⟨bS,r2,p2,_⟩:=I.tuple hb
 by_cases hx:xs=[]
 ·subst hx
  cases r1
  obtain ⟨⟨cls,dd,data,sl⟩,ho,hc,n,hd⟩:=id p1
  obtain ⟨⟨lM,iA,data2,iB⟩,eN,cU,n2,dz⟩:=id p2
  simp only at hc hd cU dz
  subst hc hd cU dz
  exact concat_meets ⟨_,ho,rfl⟩ ⟨_,eN,rfl⟩ noFill_tuple_add seq_tuple_add slot_tuple_add entry_tuple_add (args_tuple_add_2 _ _)
   (tuple_addW0 a b _ bS.toArray n n2 dd iA sl iB (by simp)) ⟨ho,eN,⟨.ref b,H,I,rfl,q0 rfl⟩⟩
 ·exact JY aa s U H (.ref a) (.ref b) _ _ Q I rfl rfl ⟨a,b,xs,ys,rfl,rfl,ha,hb,hx,hz,q1 hx,q2 hx⟩
noncomputable def addF (a b:D):Option D:=match a,b with
 | .int i,.int j=>some (.int (i+j))
 | .tup xs,.tup ys=>if xs.length+ys.length<=lim then some (.tup (xs++ys)) else none
 | .str x,.str y=>if x.length+y.length<=lim then some (.str (x++y)) else none
 | _,_=>none
theorem IsA.ne_nil {K:PySem.W.Frag}{I:Hp}{ds:List D}{xs:List V} (h:IsA K I ds xs):xs=[]↔ds=[]:=by
 have:=h.length
 constructor
 ·intro e;subst e;exact length_eq_zero_iff.mp this
 ·intro e;subst e;exact length_eq_zero_iff.mp this.symm
theorem sW (ha:ED X B a ga) (hb:ED X B b gb):ED X B (.BinOp a .Add b pos) (op2 addF ga gb):=vM ((Kp.or HM).or Mc) (λa b d e B G I H U Y x y Q r hx hy k=>by
 unfold addF at e
 split at e
 ·cases e
  exact .inl (.inl ⟨_,_,sV hx,sV hy,k.now r (Is.int _)⟩)
 ·obtain ⟨hl,rfl⟩:=tJ e
  obtain ⟨p,xs,rfl,h1,h2⟩:=sZ hx
  obtain ⟨q,ys,rfl,h3,h4⟩:=sZ hy
  refine .inl (.inr ⟨p,q,xs,ys,rfl,rfl,Same.sqT r.iH h1,Same.sqT r.iH h3,by rw [← h2.length,← h4.length];exact u8 hl,λz=>?_,λ_ z=>?_,λ_ _ p' hp=>k.tup r hp (IsA.append h2 h4)⟩)
  ·have:=h2.ne_nil.mp z
   subst this
   exact k.now r (Is.tup h3 h4)
  ·have:=h4.ne_nil.mp z
   subst this
   rw [append_nil] at k
   exact k.now r (Is.tup h1 h2)
 ·obtain ⟨hl,rfl⟩:=tJ e
  exact .inr ⟨_,_,uo hx,uo hy,u8 hl,k.now r (Is.str _)⟩
 ·cases e) ha hb
noncomputable def rCatR (K:PySem.W.Frag):R2:=λx y H Q=>∃ l b xs zs,x=.ref l/\y=.ref b/\RdK K H l xs/\RdK K H b zs/\xs.length+zs.length<=sizeLine/\∀ p,H p=none->Q (.ref p) (upd H p (.lst (xs++zs)))
theorem JB:OpR X (binaryOp .Add) (rCatR X.K):=by
 intro aa s U H x y v u Q I rx ry h
 obtain ⟨l,b,xs,zs,rfl,rfl,hH,hB,hz,q⟩:=h
 cases rx
 cases ry
 obtain ⟨z,ac,n,r,hl,e⟩:=AB I hH
 obtain ⟨z2,bS,n2,r2,dB,e2⟩:=AB I hB
 refine PySem.P.add_list e e2 ?_ (by rw [size_toArray,size_toArray];omega)
 have ea:ac.toArray++bS.toArray=(ac++bS).toArray:=by simp
 rw [ea]
 exact ⟨.ref _,_,I.lnew (t':=s.toks) (r.append r2) (by rw [length_append];omega),rfl,q _ I.fresh⟩
noncomputable def catF (a b:D):Option (List D):=match a,b with
 | .lst xs,.lst ys=>if xs.length+ys.length<=lim then some (xs++ys) else none
 | _,_=>none
theorem tW (ha:ED X B a ga) (hb:ED X B b gb):EO X B (.BinOp a .Add b pos) (op2 catF ga gb):=JN JB (λa b d e B G I H U Y x y Q r hx hy k=>by
 unfold catF at e
 split at e
 ·obtain ⟨hl,rfl⟩:=tJ e
  obtain ⟨p,xs,rfl,h1,h2⟩:=tm hx
  obtain ⟨q,ys,rfl,h3,h4⟩:=tm hy
  exact ⟨p,q,xs,ys,rfl,rfl,Same.rdK r.iH h1,Same.rdK r.iH h3,by rw [← h2.length,← h4.length];exact u8 hl,λp' hp=>k.new r hp (IsA.append h2 h4)⟩
 ·cases e) ha hb
theorem IsA.at {K:PySem.W.Frag}{I:Hp}{ds:List D}{xs:List V}{i:Int}{d:D} (h:IsA K I ds xs) (e:atI ds i=some d):∃ x,atI xs i=some x/\Is K I d x:=by
 unfold atI at e ⊢
 rw [← h.length]
 cases hj:ixN ds.length i with
 | none=>rw [hj] at e;cases e
 | some j =>
  rw [hj] at e
  exact h.get e
noncomputable def ixF (a b:D):Option D:=match seqI a,asI b with
 | some ds,some i=>atI ds i
 | _,_=>none
theorem DH {a b d:D} (h:ixF a b=some d):∃ ds i,(a=.lst ds\/a=.tup ds)/\b=.int i/\atI ds i=some d:=by
 unfold ixF at h
 cases a<;>cases b<;>simp [seqI,asI] at h
 ·exact ⟨_,_,.inr rfl,rfl,h⟩
 ·exact ⟨_,_,.inl rfl,rfl,h⟩
theorem sK (ha:ED X B a ga) (hb:ED X B b gb) (hs:PlainIx b:=by exact λ_ _=>rfl):ED X B (.Subscript a b pos) (op2 ixF ga gb):=F5 (Ef.or Kq) (λa b d e B G I H U Y x y Q r hx hy k=>by
 obtain ⟨ds,i,h1,rfl,h2⟩:=DH e
 rcases h1 with rfl | rfl
 ·obtain ⟨p,xs,rfl,h3,h4⟩:=tm hx
  obtain ⟨v,e5,e6⟩:=h4.at h2
  exact .inl ⟨p,xs,i,v,rfl,sV hy,(Same.rdK r.iH h3).sq,e5,k.now r e6⟩
 ·obtain ⟨p,xs,rfl,h3,h4⟩:=sZ hx
  obtain ⟨v,e5,e6⟩:=h4.at h2
  exact .inr ⟨p,xs,i,v,rfl,sV hy,Same.sqT r.iH h3,e5,k.now r e6⟩) ha hb hs
noncomputable def look (i:Nat):M D:=λY=>match Y[i]? with
 | some (some (.own ds))=>some (.lst ds,Y)
 | some (some (.bor ds))=>some (.lst ds,Y)
 | _=>none
theorem wS {K:PySem.W.Frag}{G I H:Hp}{U:L2.St}{Y af:Gm}{i:Nat}{d:D} (h:look i Y=some (d,af)) (r:Rep K B G I H U Y):af=Y/\∃ p xs ds,d=.lst ds/\U[i]?=some (some (.ref p))/\H p=some (.lst xs)/\IsA K I ds xs:=by
 unfold look at h
 cases e:Y[i]? with
 | none=>rw [e] at h;cases h
 | some o =>
  cases o with
  | none=>rw [e] at h;cases h
  | some q =>
   rw [e] at h
   obtain ⟨v,h1,h2⟩:=r.slot i q e
   cases q with
   | val _=>cases h
   | own ds=>cases h;obtain ⟨p,xs,rfl,g1,_,_,g4⟩:=h2;exact ⟨rfl,p,xs,ds,rfl,h1,g1,g4⟩
   | fro ds=>cases h
   | dic ds=>cases h
   | bor ds=>cases h;obtain ⟨p,xs,rfl,g1,_,_,g4⟩:=h2;exact ⟨rfl,p,xs,ds,rfl,h1,g1,g4⟩
noncomputable def atN (i:Nat) (g:M D):M D:=mutS i (bnd g λn=>bnd (look i) λl=>lft (ixF l n))
theorem t8 {i:Nat}{x:Str}{p1:Pos} (hv:PE X (.Name x p1) (tVar i)) (hb:ED X B b gb) (hs:PlainIx b:=by exact λ_ _=>rfl):ED X B (.Subscript (.Name x p1) b pos) (atN i gb):=PE.imp (Es Ef hv hb hs) λU H Q q=>by
 obtain ⟨G,I,Y,d,af,r,e1,k⟩:=q
 obtain ⟨hm,e1⟩:=vT e1
 obtain ⟨n,ab,e2,e3⟩:=sN e1
 obtain ⟨l,ah,e4,e5⟩:=sN e3
 obtain ⟨e6,rfl⟩:=tx e5
 obtain ⟨p,xs,h1,h2⟩:=vw hm r
 refine ⟨_,h1,G,I,Y,n,ab,r,e2,λv H1 I1 r1 g1 hn=>?_⟩
 obtain ⟨rfl,p',bN,ds,rfl,f1,f2,f3⟩:=wS e4 r1
 have hp:p'=p:=by rw [h1] at f1;cases f1;rfl
 subst hp
 obtain ⟨dD,j,g2,rfl,g3⟩:=DH e6
 rcases g2 with g2 | g2
 ·cases g2
  obtain ⟨y,e7,e8⟩:=f3.at g3
  exact ⟨p',bN,j,y,rfl,sV hn,SqL.of f2,e7,(k.after g1).now r1 e8⟩
 ·cases g2
noncomputable def lenF (ds:List D):Option D:=match ds with
 | [.lst xs]=>some (.int xs.length)
 | [.tup xs]=>some (.int xs.length)
 | _=>none
theorem G1 {ds:List D}{d:D} (h:lenF ds=some d):∃ xs,(ds=[.lst xs]\/ds=[.tup xs])/\d=.int xs.length:=by
 unfold lenF at h
 split at h
 ·cases h;exact ⟨_,.inl rfl,rfl⟩
 ·cases h;exact ⟨_,.inr rfl,rfl⟩
 ·cases h
theorem tK {p:Pos}{t:M (List D)} (hg:Gl X "len") (hm:X.mg "len"=none) (ha:AD X B [e] t) (he:starEach [e] X.env=(false,eval e X.env)::starEach [] X.env:=by rfl) (az:(backTo pos (starEach [] X.env)).any (·.1)=false:=by rfl) :
  ED X B (.Call (.Name "len" p) [e] [] pos) (fn1 lenF t):=uG Bb (λds d e B G I H U Y xs Q r h k=>by
 obtain ⟨ys,h1,rfl⟩:=G1 e
 rcases h1 with rfl | rfl
 ·obtain ⟨x,rfl,hx⟩:=h.one
  obtain ⟨q,zs,rfl,h3,h4⟩:=tm hx
  exact ⟨q,zs,rfl,.inl ((Same.rdK r.iH h3).sq),by rw [h4.length] at k;exact k.now r (Is.int _)⟩
 ·obtain ⟨x,rfl,hx⟩:=h.one
  obtain ⟨q,zs,rfl,h3,h4⟩:=sZ hx
  exact ⟨q,zs,rfl,.inr (Same.sqT r.iH h3),by rw [h4.length] at k;exact k.now r (Is.int _)⟩) hg hm PySem.boot_len ha (by decide) (by decide) he az
def lenN (i:Nat):M D:=bnd (look i) λl=>lft (lenF [l])
theorem AN {i:Nat}{x:Str}{p p1:Pos} (hg:Gl X "len") (hm:X.mg "len"=none) (hv:PE X (.Name x p1) (tVar i)) (he:starEach [.Name x p1] X.env=(false,eval (.Name x p1) X.env)::starEach [] X.env:=by rfl) (az:(backTo pos (starEach [] X.env)).any (·.1)=false:=by rfl) :
  ED X B (.Call (.Name "len" p) [.Name x p1] [] pos) (lenN i):=PE.imp (yT Bb hg hm PySem.boot_len (wy hv xW he) (by decide) (by decide) he az) λU H Q q=>by
 obtain ⟨G,I,Y,d,af,r,e1,k⟩:=q
 obtain ⟨l,ab,e2,e3⟩:=sN e1
 obtain ⟨e4,rfl⟩:=tx e3
 obtain ⟨rfl,q,xs,ds,rfl,f1,f2,f3⟩:=wS e2 r
 cases e4
 exact ⟨_,f1,q,xs,rfl,.inl (SqL.of f2),by rw [f3.length] at k;exact k.now r (Is.int _)⟩
noncomputable def cmpN (neg:Bool) (i:Nat) (g:M D):M D:=mutS i (bnd g λd=>bnd (look i) λl=>lft (eqF neg l d))
theorem GH {K:PySem.W.Frag}{neg:Bool}{i:Nat}:∀ U H Q,tD K B (cmpN neg i gb) U H Q->tOp (rEqD K neg) (tVar i) (tD K B gb) U H Q:=λU H Q q=>by
 obtain ⟨G,I,Y,d,af,r,e1,k⟩:=q
 obtain ⟨hm,e1⟩:=vT e1
 obtain ⟨n,ab,e2,e3⟩:=sN e1
 obtain ⟨l,ah,e4,e5⟩:=sN e3
 obtain ⟨e6,rfl⟩:=tx e5
 obtain ⟨p,xs,h1,h2⟩:=vw hm r
 refine ⟨_,h1,G,I,Y,n,ab,r,e2,λv H1 I1 r1 g1 hn=>?_⟩
 obtain ⟨rfl,p',bN,ds,rfl,f1,f2,f3⟩:=wS e4 r1
 have hp:p'=p:=by rw [h1] at f1;cases f1;rfl
 subst hp
 obtain ⟨hd,rfl⟩:=tJ e6
 exact ⟨.lst ds,n,Is.lst (RdK.of f2) (f3.mono r1.iH),hn.mono r1.iH,hd,(k.after g1).now r1 (Is.bl _)⟩
theorem Bj {i:Nat}{x:Str}{p1:Pos} (hr:Room kr X.A) (hv:PE X (.Name x p1) (tVar i)) (hb:ED X B b gb):TD X B (.Compare (.Name x p1) [.NotEq] [b] pos) (tst (cmpN true i gb)):=PT.imp (AQ (zx (hu100 hr)) hv hb (nomark _)) (xo GH)
def partD (e:Option Expr) (X:Cx) (B:BB) (g:M (Option Int)):Prop:=PO X e (λU H Q=>∃ G I Y o af,Rep X.K B G I H U Y/\g Y=some (o,af)/\∀ H' I',Rep X.K B G I' H' U af->Grow G I I'->Q o H')
theorem t5:partD none X B (ret none):=λaa s U H Q I h=>Hc aa s U H Q I (by
 obtain ⟨G,I,Y,o,af,r,e1,k⟩:=h
 cases e1
 exact k _ _ r (Grow.refl _ _))
noncomputable def prt (g:M D):M (Option Int):=bnd g λd=>bnd (lft (asI d)) λi=>ret (some i)
theorem tQ (ha:ED X B a ga):partD (some a) X B (prt ga):=λaa s U H Q I h=>EX ha aa s U H Q I (by
 obtain ⟨G,I,Y,o,af,r,e1,k⟩:=h
 obtain ⟨d,ab,e2,e3⟩:=sN e1
 obtain ⟨i,ah,e4,e5⟩:=sN e3
 cases e5
 obtain ⟨e6,rfl⟩:=tx e4
 have:=Ce e6
 subst this
 exact ⟨G,I,Y,_,_,r,e2,λv H1 I1 r1 g1 hv=>⟨i,sV hv,k _ _ r1 g1⟩⟩)
noncomputable def cutD (ds:List D) (lo hi:Option Int):List D:=(ds.drop (HT.sIx ds.length 0 lo)).take (HT.sIx ds.length ds.length hi - HT.sIx ds.length 0 lo)
theorem IsA.cut {K:PySem.W.Frag}{I:Hp}{ds:List D}{xs:List V} (h:IsA K I ds xs) (lo hi:Option Int):IsA K I (cutD ds lo hi) (cutV xs lo hi):=by
 unfold cutD cutV
 rw [← h.length]
 exact (h.drop _).take _
noncomputable def slF (d:D) (lo hi:Option Int):Option D:=match d with
 | .lst ds=>some (.lst (cutD ds lo hi))
 | .tup ds=>if HT.sIx ds.length 0 lo=0/\HT.sIx ds.length ds.length hi=ds.length then none else some (.tup (cutD ds lo hi))
 | _=>none
noncomputable def sl3 {α:Type} (F:D->Option Int->Option Int->Option α) (g:M D) (gl gh:M (Option Int)):M α:=bnd g λd=>bnd gl λl=>bnd gh λh=>lft (F d l h)
theorem tX {lo hi:Option Expr}{p2:Pos}{gl gh:M (Option Int)} (ha:ED X B a ga) (hl:partD lo X B gl) (hh:partD hi X B gh):ED X B (.Subscript a (.Slice lo hi none p2) pos) (sl3 slF ga gl gh):=PE.imp (F3 (E9.or L7) ha hl hh) λU H Q q=>by
 obtain ⟨G,I,Y,d,af,r,e1,k⟩:=q
 obtain ⟨c,ab,e2,e3⟩:=sN e1
 obtain ⟨l,ah,e4,e5⟩:=sN e3
 obtain ⟨h,aR,e6,e7⟩:=sN e5
 obtain ⟨e8,rfl⟩:=tx e7
 refine ⟨G,I,Y,c,ab,r,e2,λv H1 I1 r1 g1 hv=>⟨G,I1,ab,l,ah,r1,e4,λH2 I2 r2 g2=>⟨G,I2,ah,h,_,r2,e6,λH3 I3 r3 g3=>?_⟩⟩⟩
 have gg:=g1.trans (g2.trans g3)
 have mf:=hv.mono (g2.trans g3).up
 cases c with
 | lst ds =>
  cases e8
  obtain ⟨p,xs,rfl,h3,h4⟩:=tm mf
  refine .inl ⟨p,xs,rfl,(Same.rdK r3.iH h3).sq,λp' hp=>?_⟩
  exact (k.after gg) _ _ _ (r3.alloc hp _) (r3.growAlloc hp _) (Is.lst (RdK.of tz) ((h4.cut l h).mono (tY (r3.iFree hp) _)))
 | tup ds =>
  unfold slF at e8
  by_cases hw:HT.sIx ds.length 0 l=0/\HT.sIx ds.length ds.length h=ds.length
  ·simp only [hw,and_self,if_true] at e8;cases e8
  ·simp only [if_neg hw] at e8;cases e8
   obtain ⟨p,xs,rfl,h3,h4⟩:=sZ mf
   exact .inr ⟨p,xs,rfl,Same.sqT r3.iH h3,by rw [← h4.length];exact hw,λp' hp=>(k.after gg).tup r3 hp (h4.cut l h)⟩
 | _=>cases e8
noncomputable def minF (ds:List D):Option D:=match ds with
 | [.int i,.int j]=>some (.int (if j < i then j else i))
 | _=>none
noncomputable def maxF (ds:List D):Option D:=match ds with
 | [.int i,.int j]=>some (.int (if j > i then j else i))
 | _=>none
theorem u5 {p:Pos}{t:M (List D)} (hc:X.calm=true) (hg:Gl X "min") (hm:X.mg "min"=none) (ha:AD X B (e::es) t) (he:starEach (e::es) X.env=(false,eval e X.env)::starEach es X.env:=by rfl) (az:(backTo pos (starEach es X.env)).any (·.1)=false:=by rfl) :
  ED X B (.Call (.Name "min" p) (e::es) [] pos) (fn1 minF t):=uG (JF hc) (λds d e B G I H U Y xs Q r h k=>by
 unfold minF at e
 split at e
 ·cases e
  obtain ⟨x,y,rfl,hx,hy⟩:=h.two
  exact ⟨_,_,by rw [sV hx,sV hy],k.now r (Is.int _)⟩
 ·cases e) hg hm boot_min ha (by decide) (by decide) he az
theorem vY {p:Pos}{t:M (List D)} (hc:X.calm=true) (hg:Gl X "max") (hm:X.mg "max"=none) (ha:AD X B (e::es) t) (he:starEach (e::es) X.env=(false,eval e X.env)::starEach es X.env:=by rfl) (az:(backTo pos (starEach es X.env)).any (·.1)=false:=by rfl) :
  ED X B (.Call (.Name "max" p) (e::es) [] pos) (fn1 maxF t):=uG (Fu hc) (λds d e B G I H U Y xs Q r h k=>by
 unfold maxF at e
 split at e
 ·cases e
  obtain ⟨x,y,rfl,hx,hy⟩:=h.two
  exact ⟨_,_,by rw [sV hx,sV hy],k.now r (Is.int _)⟩
 ·cases e) hg hm boot_max ha (by decide) (by decide) he az
noncomputable def tupF (ds:List D):Option D:=match ds with
 | [.lst xs]=>some (.tup xs)
 | [.tup xs]=>some (.tup xs)
 | _=>none
noncomputable def lstF (ds:List D):Option (List D):=match ds with
 | [.lst xs]=>some xs
 | [.tup xs]=>some xs
 | _=>none
theorem uS {p:Pos}{t:M (List D)} (hg:Gl X "tuple") (hm:X.mg "tuple"=none) (ha:AD X B [e] t) (he:starEach [e] X.env=(false,eval e X.env)::starEach [] X.env:=by rfl) (az:(backTo pos (starEach [] X.env)).any (·.1)=false:=by rfl) :
  ED X B (.Call (.Name "tuple" p) [e] [] pos) (fn1 tupF t):=Dr Jt (λds d e B G I H U Y xs Q r h k=>by
 unfold tupF at e
 split at e
 ·cases e
  obtain ⟨x,rfl,hx⟩:=h.one
  obtain ⟨q,zs,rfl,h3,h4⟩:=tm hx
  exact ⟨q,zs,rfl,.inl ⟨(Same.rdK r.iH h3).sq,λp' hp=>k.tup r hp h4⟩⟩
 ·cases e
  obtain ⟨x,rfl,hx⟩:=h.one
  obtain ⟨q,zs,rfl,h3,h4⟩:=sZ hx
  exact ⟨q,zs,rfl,.inr ⟨Same.sqT r.iH h3,k.now r (Is.tup h3 h4)⟩⟩
 ·cases e) hg hm boot_tuple ha (by decide) (by decide) he az
theorem AT {p:Pos}{t:M (List D)} (hg:Gl X "list") (hm:X.mg "list"=none) (ha:AD X B [e] t) (he:starEach [e] X.env=(false,eval e X.env)::starEach [] X.env:=by rfl) (az:(backTo pos (starEach [] X.env)).any (·.1)=false:=by rfl) :
  EO X B (.Call (.Name "list" p) [e] [] pos) (fn1 lstF t):=Ft Lj (λds d e B G I H U Y xs Q r h k=>by
 unfold lstF at e
 split at e
 ·cases e
  obtain ⟨x,rfl,hx⟩:=h.one
  obtain ⟨q,zs,rfl,h3,h4⟩:=tm hx
  exact ⟨q,zs,rfl,.inl ((Same.rdK r.iH h3).sq),λp' hp=>k.new r hp h4⟩
 ·cases e
  obtain ⟨x,rfl,hx⟩:=h.one
  obtain ⟨q,zs,rfl,h3,h4⟩:=sZ hx
  exact ⟨q,zs,rfl,.inr (Same.sqT r.iH h3),λp' hp=>k.new r hp h4⟩
 ·cases e) hg hm boot_list ha (by decide) (by decide) he az
noncomputable def isN (d:D):Bool:=match d with
 | .non=>true
 | _=>false
noncomputable def isNF (neg:Bool) (a b:D):Option D:=match b with
 | .non=>some (.bl (if neg then !isN a else isN a))
 | _=>none
theorem Dy {K:PySem.W.Frag}{I:Hp}{a:D}{x:V} (h:Is K I a x):decide (x=V.non)=isN a:=by
 cases a with
 | non=>rw [uf h];rfl
 | bl _=>rw [tV h];rfl
 | int _=>rw [sV h];rfl
 | str _=>rw [uo h];rfl
 | tup _=>obtain ⟨_,_,rfl,_⟩:=sZ h;rfl
 | lst _=>obtain ⟨_,_,rfl,_⟩:=tm h;rfl
theorem Ba {K:PySem.W.Frag}:OpD K (λx y H Q=>y=.non/\Q (.bl (decide (x=.non))) H) (isNF false):=λa b d e B G I H U Y x y Q r hx hy k=>by
 unfold isNF at e
 split at e
 ·cases e;exact ⟨uf hy,by rw [Dy hx];exact k.now r (Is.bl _)⟩
 ·cases e
theorem FT {K:PySem.W.Frag}:OpD K (λx y H Q=>y=.non/\Q (.bl (!decide (x=.non))) H) (isNF true):=λa b d e B G I H U Y x y Q r hx hy k=>by
 unfold isNF at e
 split at e
 ·cases e;exact ⟨uf hy,by rw [Dy hx];exact k.now r (Is.bl _)⟩
 ·cases e
theorem Jw (ha:ED X B a ga) (hb:ED X B b gb):ED X B (.Compare a [.Is] [b] pos) (op2 (isNF false) ga gb):=vJ CP Ba ha hb
theorem GE (ha:ED X B a ga) (hb:ED X B b gb):TD X B (.Compare a [.Is] [b] pos) (tst (op2 (isNF false) ga gb)):=uJ CP Ba ha hb
theorem F9 (ha:ED X B a ga) (hb:ED X B b gb):TD X B (.Compare a [.IsNot] [b] pos) (tst (op2 (isNF true) ga gb)):=uJ KB FT ha hb
noncomputable def isBF (neg:Bool) (a b:D):Option D:=match a,b with
 | .bl c,.bl d=>some (.bl (if neg then c != d else c == d))
 | _,_=>none
theorem LP:OpR X (compareOp .Is) (λx y H Q=>∃ c d,x=.bl c/\y=.bl d/\Q (.bl (c == d)) H):=by
 intro aa s U H x y v u Q I rx ry h
 obtain ⟨c,d,rfl,rfl,q⟩:=h
 cases rx;cases ry
 exact is_bool ⟨.bl _,H,I,rfl,q⟩
theorem L4 {K:PySem.W.Frag}:OpD K (λx y H Q=>∃ c d,x=.bl c/\y=.bl d/\Q (.bl (c == d)) H) (isBF false):=λa b d e B G I H U Y x y Q r hx hy k=>by
 unfold isBF at e
 split at e
 ·cases e;exact ⟨_,_,tV hx,tV hy,k.now r (Is.bl _)⟩
 ·cases e
theorem Ks (ha:ED X B a ga) (hb:ED X B b gb):ED X B (.Compare a [.Is] [b] pos) (op2 (isBF false) ga gb):=vJ LP L4 ha hb
end
structure Kd where
 it:Heap->Addr->Addr->Nat->Prop
 sq:Heap->Addr->Array Value->Prop
 nm:String
structure KdOk (k:Kd):Prop where
 itAt:∀ {h h':Heap}{i l:Addr}{n:Nat},k.it h i l n->(∀ o,h.get? i=some o->h'.get? i=some o)->k.it h' i l n
 sqAt:∀ {h h':Heap}{l:Addr}{xs:Array Value},k.sq h l xs->(∀ o,h.get? l=some o->h'.get? l=some o)->k.sq h' l xs
 itLt:∀ {h:Heap}{i l:Addr}{n:Nat},k.it h i l n->i < h.objs.size
 sqLt:∀ {h:Heap}{l:Addr}{xs:Array Value},k.sq h l xs->l < h.objs.size
 itObj:∀ {h:Heap}{i l:Addr}{n:Nat},k.it h i l n->∃ o,h.get? i=some o/\∀ v,o.data≠.cell v
 iter:∀ {prog:Program}{w:World}{A:Around}{E:Value->Shared->Prop}{s:Shared}{l:Addr}{xs:Array Value}{Q:Value->Shared->Prop},k.sq s.heap l xs →
  Q (.ref s.heap.objs.size) { s with heap:=s.heap.push { cls:=.type k.nm,data:=.fields #[.ref l,.int 0 0] } }->wpAny (model prog w) A (pyIter (.ref l)) Q E s
 new:∀ {h:Heap}{l:Addr},k.it (h.push { cls:=.type k.nm,data:=.fields #[.ref l,.int 0 0] }) h.objs.size l 0
 item:∀ {prog:Program}{w:World}{A:Around}{E:Value->Shared->Prop}{s:Shared}{i l:Addr}{n:Nat}{xs:Array Value}{x:Value}{Q:Value->Shared->Prop},k.it s.heap i l n->k.sq s.heap l xs->xs[n]?=some x →
  (∀ h',k.it h' i l (n+1)->Heap.SameBut i s.heap h'->Q x { s with heap:=h' })->wpAny (model prog w) A (nextOf (.ref i)) Q E s
 stop:∀ {prog:Program}{w:World}{A:Around}{E:Value->Shared->Prop}{s:Shared}{i l:Addr}{n:Nat}{xs:Array Value}{Q:Value->Shared->Prop},A.handled=none->k.it s.heap i l n->k.sq s.heap l xs->xs[n]?=none →
  (∀ h' e,Heap.ExtBut i s.heap h'->(∃ o,h'.get? e=some o/\o.cls=.type "StopIteration")->E (.ref e) { s with heap:=h' })->wpAny (model prog w) A (nextOf (.ref i)) Q E s
noncomputable def kdL:Kd:=⟨λh i l n=>h.IsListIter i l n,λh l xs=>h.IsList l xs, "list_iterator"⟩
noncomputable def kdT:Kd:=⟨λh i l n=>h.IsTupleIter i l n,λh l xs=>h.IsTuple l xs, "tuple_iterator"⟩
theorem CC:KdOk kdL where
 itAt:=λh k=>h.at k
 sqAt:=λh k=>h.at k
 itLt:=λh=>by obtain ⟨_,e,_⟩:=h;exact lt_size e
 sqLt:=λh=>by obtain ⟨_,e,_⟩:=h;exact lt_size e
 itObj:=λh=>by obtain ⟨o,e,_,d⟩:=h;exact ⟨o,e,λv z=>by rw [d] at z;cases z⟩
 iter:=λh q=>wpAny_pyIter_list h q
 new:=⟨_,get?_push_size _ rfl,rfl,rfl⟩
 item:=λh1 h2 h3 q=>wpAny_nextOf_list_item h1 h2 h3 q
 stop:=λhh h1 h2 h3 q=>wpAny_nextOf_list_end hh h1 h2 h3 q
section
variable {prog:Program}{w:World}{A:Around}{E:Value->Shared->Prop}{s:Shared}
theorem IF {α:Type}{Q:α->Shared->Prop} (hh:A.handled=none)
  (k:∀ (g:Heap) (x:Addr),(∀ b o,s.heap.get? b=some o->g.get? b=some o)->(∃ o,g.get? x=some o/\o.cls=.type "StopIteration")->E (.ref x) { s with heap:=g }) :
  wpAny (model prog w) A (stopIteration (α:=α)) Q E s:=by
 unfold stopIteration newExc newTuple
 refine wpAny_bind (wpAny_bind (wpAny_newObj_type (wpAny_bind (wpAny_of_eq (a:=Value.none) (by first | rfl | (simp only [firstArgMember];rfl)) (wpAny_newObj_type ?_ (by size_fits)))) (by size_fits)))
 unfold raiseNew
 refine wpAny_bind (wpAny_handled ?_)
 rw [hh]
 exact wpAny_bind (wpAny_pure (wpAny_throw (k _ _ (λb o e=>get?_push_of_some _ (get?_push_of_some _ e)) ⟨_,get?_push_size _ rfl,rfl⟩)))
theorem BO {bj tp:Addr}{i:Nat}{cells:Array Value}{Q:Value->Shared->Prop} (hi:s.heap.IsTupleIter bj tp i) (hT:s.heap.IsTuple tp cells)
  (one:∀ v,cells[i]?=some v->∀ g:Heap,g.IsTupleIter bj tp (i+1)->Heap.SameBut bj s.heap g->Q v { s with heap:=g })
  (non:cells[i]?=none->A.handled=none/\∀ (g:Heap) (x:Addr),Heap.ExtBut bj s.heap g->(∃ o,g.get? x=some o/\o.cls=.type "StopIteration")->E (.ref x) { s with heap:=g }) :
  wpAny (model prog w) A (nextOf (.ref bj)) Q E s:=by
 have ty:=hi.typeIs
 obtain ⟨oi,gi,ci,di⟩:=hi
 obtain ⟨ot,gt,ct,nt,dt⟩:=hT
 unfold nextOf
 refine wpAny_bind (wpAny_callSpecial?_slot (name:=ofString "__next__") ty F.slot_tuple_iterator_next (wpAny_call_entry F.slot_tuple_iterator_next ty F.entry_tuple_iterator_next ?_ (F.args_tuple_iterator_next_1 _)))
 refine wpAny_bind (wpAny_of_eq (a:=(Value.ref bj,[])) rfl ?_)
 refine wpAny_bind (wpAny_field (i:=0) gi di (x:=.ref tp) rfl (wpAny_ite_split (λno=>absurd no Bool.false_ne_true) λ_=>?_))
 refine wpAny_bind (wpAny_field (i:=1) gi di (x:=.int i 0) rfl (wpAny_bind (wpAny_seqItems gt dt ?_)))
 dsimp only
 rw [Int.toNat_natCast]
 cases hv:cells[i]? with
 | some v =>
  refine wpAny_bind (wpAny_setField gi di (by simp) (wpAny_pure ⟨v,rfl,wpAny_pure (one v hv _ ?_ (Heap.SameBut.update ..))⟩))
  have low:=data_mapFields di
  exact ⟨_,get?_update_self _ gi (Obj.isFreed_of_fields (low _)),(Obj.cls_mapFields ..).trans ci,by rw [low];simp [rawInt]⟩
 | none =>
  obtain ⟨hh,k⟩:=non hv
  refine wpAny_bind (wpAny_rule (wpAny_bind (wpAny_setField gi di (by simp) (IF hh λg x keep is=>k g x (λb o ne e=>keep b o ((Heap.SameBut.update ..).extBut b o ne e)) is))))
end
theorem Cn:KdOk kdT where
 itAt:=λh k=>by obtain ⟨o,e,r⟩:=h;exact ⟨o,k o e,r⟩
 sqAt:=λh k=>by obtain ⟨o,e,r⟩:=h;exact ⟨o,k o e,r⟩
 itLt:=λh=>by obtain ⟨_,e,_⟩:=h;exact lt_size e
 sqLt:=λh=>by obtain ⟨_,e,_⟩:=h;exact lt_size e
 itObj:=λh=>by obtain ⟨o,e,_,d⟩:=h;exact ⟨o,e,λv z=>by rw [d] at z;cases z⟩
 iter:=λh q=>wpAny_pyIter_tuple h q
 new:=⟨_,get?_push_size _ rfl,rfl,rfl⟩
 item:=λh1 h2 h3 q=>BO h1 h2 (λv e g=>by rw [h3] at e;cases e;exact q g) λe=>by rw [h3] at e;cases e
 stop:=λhh h1 h2 h3 q=>BO h1 h2 (λv e=>by rw [h3] at e;cases e) λ_=>⟨hh,q⟩
theorem Df {X:Cx}{aa:List (Addr×Obj)}{U:L2.St}{H:Hp}{s:Shared}{h':Heap}{t':Nat}{ch:List Addr}{T:Addr}{o:HO} (I:Inv X aa U H s) (bq:∀ b∈ch,FpOk X aa H b) (k:∀ b u,b∉ch->s.heap.get? b=some u->h'.get? b=some u)
  (hT:s.heap.objs.size<=T) (new:ObjOk X.prog X.w (upd H T o) h' T o):Inv X aa U (upd H T o) { s with heap:=h',toks:=t' }:=by
 have hf:=I.hok.fresh hT
 have ne:∀ {b u},H b=some u->b≠T:=λ{b u} e=>ut e hf
 have cL:∀ {b u},H b=some u->b∉ch:=λ{b u} e z=>by have:=(bq b z).1;rw [e] at this;cases this
 refine I.step (g':=s.gens) (d':=s.drawn) (ch:=ch) (λb hb=>⟨(bq b hb).2.2.2.1,(bq b hb).2.1,(bq b hb).2.2.2.2.1,(bq b hb).2.2.2.2.2⟩) (λb u _ _ hc e _=>k b u hc e) (λb u _ _ hc e _=>⟨u.slots,k b u hc e⟩) (λb u hc e n=>?_)
  (λb u hc e=>⟨u,k b u hc e⟩) (λb xs e=>by rw [sO (ne e)];exact e) (λb u v e=>by rw [sO (ne e)];exact e) (λb q e=>by rw [sO (ne e)];exact e) (λm hm=>?_) (λb u e=>?_) I.bare
 ·have nb:b≠T:=λz=>by have:=lt_size e;rw [z] at this;exact absurd (lt_of_lt_of_le this hT) (lt_irrefl _)
  rw [sO nb];exact n
 ·obtain ⟨ob,es,ep,ho,r⟩:=hm
  exact ⟨ob,es,ep,k _ ob (λz=>(bq _ z).2.1 rfl) ho,r⟩
 ·by_cases hb:b=T
  ·subst hb;rw [tz] at e;cases e;exact new
  ·rw [sO hb] at e
   refine (I.hok b u e).stay (λc v hc q=>k c v ?_ q) (λc q=>by rw [sO (ne q)];exact q) (λc xs q=>by rw [sO (ne q)];exact q) λc o u q=>by rw [sO (ne q)];exact q
   rcases hc with z | z
   ·rw [z];exact cL e
   ·exact cL z
theorem vK {X:Cx}{aa:List (Addr×Obj)}{U:L2.St}{H:Hp}{s:Shared}{h':Heap}{t':Nat}{ch:List Addr} (I:Inv X aa U H s) (bq:∀ b∈ch,FpOk X aa H b) (k:∀ b u,b∉ch->s.heap.get? b=some u->h'.get? b=some u):Inv X aa U H { s with heap:=h',toks:=t' }:=by
 have cL:∀ {b u},H b=some u->b∉ch:=λ{b u} e z=>by have:=(bq b z).1;rw [e] at this;cases this
 refine I.step (g':=s.gens) (d':=s.drawn) (ch:=ch) (λb hb=>⟨(bq b hb).2.2.2.1,(bq b hb).2.1,(bq b hb).2.2.2.2.1,(bq b hb).2.2.2.2.2⟩) (λb u _ _ hc e _=>k b u hc e) (λb u _ _ hc e _=>⟨u.slots,k b u hc e⟩) (λb u hc e n=>n)
  (λb u hc e=>⟨u,k b u hc e⟩) (λb xs e=>e) (λb u v e=>e) (λ_ _ e=>e) (λm hm=>?_) (λb u e=>?_) I.bare
 ·obtain ⟨ob,es,ep,ho,r⟩:=hm
  exact ⟨ob,es,ep,k _ ob (λz=>(bq _ z).2.1 rfl) ho,r⟩
 ·refine (I.hok b u e).stay (λc v hc q=>k c v ?_ q) (λc q=>q) (λc xs q=>q) λc o u q=>q
  rcases hc with z | z
  ·rw [z];exact cL e
  ·exact cL z
section
variable {prog:Program}{w:World}{A:Around}{E:Value->Shared->Prop}{s:Shared}{k:Kd}
theorem Br (ok:KdOk k){z ta bJ p q u v:Addr}{m n:Nat}{xs ys:Array Value}{c0 c1:Value}{Q:PySem.Fin->Shared->Prop} (D:ZipApart z ta bJ p q u v) (sE:IsZip s.heap z ta bJ .none) (Ta:IsPair s.heap ta (.ref p) (.ref q))
  (To:IsPair s.heap bJ c0 c1) (P:k.it s.heap p u m) (P':k.it s.heap q v n) (sC:k.sq s.heap u xs) (U':k.sq s.heap v ys)
  (jt:∀ x y,xs[m]?=some x->ys[n]?=some y->∀ g:Heap,g.objs.size=s.heap.objs.size+1/\IsPair g s.heap.objs.size x y->IsZip g z ta bJ (rawInt s.heap.objs.size)->IsPair g bJ x y->k.it g p u (m+1)/\k.it g q v (n+1) →
   (∀ c o,(c≠z/\c≠bJ/\c≠p/\c≠q)->s.heap.get? c=some o->g.get? c=some o)->Q (.done (.ret (.ref s.heap.objs.size))) { s with heap:=g })
  (ju:(xs[m]?=none\/ys[n]?=none)->A.handled=none/\∀ (g:Heap) (x:Addr),(∀ c o,(c≠z/\c≠bJ/\c≠p/\c≠q)->s.heap.get? c=some o->g.get? c=some o)->(∃ o,g.get? x=some o/\o.cls=.type "StopIteration")->E (.ref x) { s with heap:=g }) :
  wpAny (model prog w) A (Builtin.«zip.__next__» ⟨[.ref z],[]⟩) Q E s:=by
 refine wpAny_bind (wpAny_of_eq (a:=(Value.ref z,[])) rfl (wpAny_bind (wpAny_field (i:=2) sE rfl (x:=.bool false) rfl (wpAny_bind (wpAny_field (i:=3) sE rfl (x:=.ref ta) rfl (wpAny_bind (wpAny_seqItems Ta rfl ?_)))))))
 refine wpAny_bind (m:=Builtin.SmallTypes.ownedTupleIsFree (.ref z)) (wpAny_bind (wpAny_field (i:=0) sE rfl (x:=.none) rfl (wpAny_pure ?_)))
 rw [if_pos rfl]
 refine wpAny_bind (wpAny_rule (wpAny_bind (wpAny_field (i:=4) sE rfl (x:=.ref bJ) rfl (wpAny_bind (wpAny_setField_rec sE (by simp) λg1 Z1 b1=>?_)))))
 replace Z1:IsZip g1 z ta bJ .ellipsis:=Z1
 have j9:∀ (g:Heap) (x:Addr),IsZip g z ta bJ .ellipsis->(∃ o,g.get? x=some o/\o.cls=.type "StopIteration")->(∀ g':Heap,Heap.SameBut z g g'->(∃ o,g'.get? x=some o/\o.cls=.type "StopIteration")->E (.ref x) { s with heap:=g' }) →
   wpAny (model prog w) A (setField (.ref z) 0 .none) (λ_ s'=>E (.ref x) s') E { s with heap:=g }:=λg x Zg is kk=>by
  obtain ⟨o,e1,e2⟩:=is
  refine wpAny_setField_rec Zg (by simp) λg' _ b'=>kk g' b' ⟨o,b'.extBut _ _ (λsame=>?_) e1,e2⟩
  rw [same,Zg] at e1
  cases e1
  simp at e2
 have f1:∀ c o,c≠z->s.heap.get? c=some o->g1.get? c=some o:=λc o ne e=>b1.extBut _ _ ne e
 refine wpAny_bind ?_
 rw [List.zipIdx_cons,List.zipIdx_cons,List.zipIdx_nil,forIn_cons]
 refine wpAny_bind (wpAny_bind (wpAny_onRaise (wpAny_bind (m:=nextOf (.ref p)) ?_)))
 have P1:=ok.itAt P λo e=>f1 _ o D.i1z e
 have U1:=ok.sqAt sC λo e=>f1 _ o D.l1z e
 cases hx:xs[m]? with
 | none =>
  obtain ⟨hh,aL⟩:=ju (.inl hx)
  exact ok.stop hh P1 U1 hx λg2 x b2 is=>j9 g2 x (b2 _ _ D.i1z.symm Z1) is λg' b' eU=>aL g' x (λc o ne e=>b'.extBut _ _ ne.1 (b2 _ _ ne.2.2.1 (f1 c o ne.1 e))) eU
 | some x =>
  refine ok.item P1 U1 hx λg2 P2 b2=>wpAny_pure ?_
  have mh:IsPair g2 bJ c0 c1:=b2.extBut _ _ D.TOi1 (f1 _ _ D.TOz To)
  refine wpAny_bind (wpAny_seqItems mh rfl (wpAny_bind (wpAny_updateSeq_pair mh λg3 ka b3=>wpAny_bind (wpAny_letGo (wpAny_pure ?_)))))
  replace ka:IsPair g3 bJ x c1:=ka
  have f3:∀ c o,c≠bJ->c≠p->g1.get? c=some o->g3.get? c=some o:=λc o n1 n2 e=>b3.extBut _ _ n1 (b2.extBut _ _ n2 e)
  have Z3:IsZip g3 z ta bJ .ellipsis:=f3 _ _ D.TOz.symm D.i1z.symm Z1
  dsimp only
  rw [forIn_cons]
  refine wpAny_bind (wpAny_bind (wpAny_onRaise (wpAny_bind (m:=nextOf (.ref q)) ?_)))
  have Q3:=ok.itAt P' λo e=>f3 _ o D.TOi2.symm D.i12.symm (f1 _ o D.i2z e)
  have V3:=ok.sqAt U' λo e=>f3 _ o D.l2TO D.l2i1 (f1 _ o D.l2z e)
  cases hy:ys[n]? with
  | none =>
   obtain ⟨hh,aL⟩:=ju (.inr hy)
   exact ok.stop hh Q3 V3 hy λg4 x b4 is=>j9 g4 x (b4 _ _ D.i2z.symm Z3) is λg' b' eU=>aL g' x (λc o ne e=>b'.extBut _ _ ne.1 (b4 _ _ ne.2.2.2 (f3 c o ne.2.1 ne.2.2.1 (f1 c o ne.1 e)))) eU
  | some y =>
   refine ok.item Q3 V3 hy λg4 Q4 b4=>wpAny_pure ?_
   have ml:IsPair g4 bJ x c1:=b4.extBut _ _ D.TOi2 ka
   refine wpAny_bind (wpAny_seqItems ml rfl (wpAny_bind (wpAny_updateSeq_pair ml λg5 iI b5=>wpAny_bind (wpAny_letGo (wpAny_pure ?_)))))
   replace iI:IsPair g5 bJ x y:=iI
   have f5:∀ c o,c≠bJ->c≠q->g3.get? c=some o->g5.get? c=some o:=λc o n1 n2 e=>b5.extBut _ _ n1 (b4.extBut _ _ n2 e)
   dsimp only
   rw [forIn_nil]
   refine wpAny_pure (wpAny_bind (wpAny_seqItems iI rfl (wpAny_bind (wpAny_newTuple ?_))))
   have same:g5.objs.size=s.heap.objs.size:=b5.1.trans (b4.1.trans (b3.1.trans (b2.1.trans b1.1)))
   have Z5:IsZip g5 z ta bJ .ellipsis:=f5 _ _ D.TOz.symm D.i2z.symm Z3
   have eV:g5.objs.size≠z:=ne_of_gt (lt_size Z5)
   have Z6:IsZip (g5.push { cls:=.type "tuple", data:=.seq #[x,y] }) z ta bJ .ellipsis:=get?_push_of_some _ Z5
   refine wpAny_bind (m:=Builtin.SmallTypes.ownedTupleHandOut (.ref z) (.ref g5.objs.size)) (wpAny_bind (wpAny_setField_rec Z6 (by simp) λg7 Z7 b7=>?_))
   refine wpAny_setField_rec Z7 (by simp) λg8 Z8 b8=>wpAny_pure ?_
   replace Z8:IsZip g8 z ta bJ (rawInt g5.objs.size):=Z8
   have f8:∀ c o,c≠z->g5.get? c=some o->g8.get? c=some o:=λc o ne e=>b8.extBut _ _ ne (b7.extBut _ _ ne (get?_push_of_some _ e))
   have T8:IsPair g8 g5.objs.size x y:=b8.extBut _ _ eV (b7.extBut _ _ eV (get?_push_size _ rfl))
   have gE:g8.objs.size=g5.objs.size+1:=b8.1.trans (b7.1.trans (size_push ..))
   show Q (.done (.ret (.ref g5.objs.size))) { s with heap:=g8 }
   rw [same] at Z8 T8 gE ⊢
   exact jt x y hx hy g8 ⟨gE,T8⟩ Z8 (f8 _ _ D.TOz iI) ⟨ok.itAt P2 λo e=>f8 _ o D.i1z (f5 _ o D.TOi1.symm D.i12 (b3.extBut _ _ D.TOi1.symm e)),ok.itAt Q4 λo e=>f8 _ o D.i2z (b5.extBut _ _ D.TOi2.symm e)⟩
    λc o ne e=>f8 c o ne.1 (f5 c o ne.2.1 ne.2.2.2 (f3 c o ne.2.1 ne.2.2.1 (f1 c o ne.1 e)))
noncomputable abbrev zk1 (k:Kd) (h:Heap) (l1:Addr):Heap:=h.push { cls:=.type k.nm,data:=.fields #[.ref l1,.int 0 0] }
noncomputable abbrev zk2 (k:Kd) (h:Heap) (l1 l2:Addr):Heap:=(zk1 k h l1).push { cls:=.type k.nm,data:=.fields #[.ref l2,.int 0 0] }
noncomputable abbrev zk3 (k:Kd) (h:Heap) (l1 l2:Addr):Heap:=(zk2 k h l1 l2).push { cls:=.type "tuple", data:=.seq #[.ref h.objs.size,.ref (zk1 k h l1).objs.size] }
noncomputable abbrev zk4 (k:Kd) (h:Heap) (l1 l2:Addr):Heap:=(zk3 k h l1 l2).push { cls:=.type "tuple", data:=.seq #[.none,.none] }
noncomputable abbrev zk5 (k:Kd) (h:Heap) (l1 l2:Addr):Heap:=(zk4 k h l1 l2).push { cls:=.type "zip", data:=.fields #[.none,.bool false,.bool false,.ref (zk2 k h l1 l2).objs.size,.ref (zk3 k h l1 l2).objs.size] }
theorem Gu (ok:KdOk k) (l1 l2:Addr) (xs ys:Array Value) :
  Meets (Builtin.«zip.__new__» ⟨[.type "zip", .ref l1,.ref l2],[]⟩) (λ_ R s=>k.sq s.heap l1 xs/\k.sq s.heap l2 ys ∧
   ∀ h',IsZip h' (s.heap.objs.size+4) (s.heap.objs.size+2) (s.heap.objs.size+3) .none->IsPair h' (s.heap.objs.size+2) (.ref s.heap.objs.size) (.ref (s.heap.objs.size+1)) →
    IsPair h' (s.heap.objs.size+3) .none .none->k.it h' s.heap.objs.size l1 0->k.it h' (s.heap.objs.size+1) l2 0->(∀ c o,s.heap.get? c=some o->h'.get? c=some o)->R (.ok (.ret (.ref (s.heap.objs.size+4)))) { s with heap:=h' }) :=
 .of_wp λprog w A R s h=>by
  obtain ⟨hp,gn,dw,tk,os⟩:=s
  obtain ⟨cZ,dB,h⟩:=h
  have gF:=sub_zip
  have o5:k.sq (Shared.heap ⟨hp,gn,dw,tk,os⟩) l1 xs:=cZ
  have o6:k.sq (Shared.heap ⟨zk1 k hp l1,gn,dw,tk,os⟩) l2 ys:=ok.sqAt dB λo e=>get?_push_of_some _ e
  wp_walk using ok.iter o5,ok.iter o6
  refine ⟨_,rfl,?_⟩
  have z1:(zk1 k hp l1).objs.size=hp.objs.size+1:=size_push ..
  have z2:(zk2 k hp l1 l2).objs.size=hp.objs.size+2:=by rw [size_push,z1]
  have z3:(zk3 k hp l1 l2).objs.size=hp.objs.size+3:=by rw [size_push,z2]
  have z4:(zk4 k hp l1 l2).objs.size=hp.objs.size+4:=by rw [size_push,z3]
  have g5:(zk5 k hp l1 l2).get? (zk4 k hp l1 l2).objs.size=some { cls:=.type "zip", data:=.fields #[.none,.bool false,.bool false,.ref (zk2 k hp l1 l2).objs.size,.ref (zk3 k hp l1 l2).objs.size] }:=get?_push_size _ rfl
  have g4:(zk5 k hp l1 l2).get? (zk3 k hp l1 l2).objs.size=some { cls:=.type "tuple", data:=.seq #[.none,.none] }:=get?_push_of_some _ (get?_push_size _ rfl)
  have g3:(zk5 k hp l1 l2).get? (zk2 k hp l1 l2).objs.size=some { cls:=.type "tuple", data:=.seq #[.ref hp.objs.size,.ref (zk1 k hp l1).objs.size] }:=get?_push_of_some _ (get?_push_of_some _ (get?_push_size _ rfl))
  have n2:k.it (zk2 k hp l1 l2) (zk1 k hp l1).objs.size l2 0:=ok.new
  have n1:k.it (zk1 k hp l1) hp.objs.size l1 0:=ok.new
  have i2:k.it (zk5 k hp l1 l2) (zk1 k hp l1).objs.size l2 0:=ok.itAt n2 λo e=>get?_push_of_some _ (get?_push_of_some _ (get?_push_of_some _ e))
  have i1:k.it (zk5 k hp l1 l2) hp.objs.size l1 0:=ok.itAt n1 λo e=>get?_push_of_some _ (get?_push_of_some _ (get?_push_of_some _ (get?_push_of_some _ e)))
  show R (.ok (.ret (.ref (zk4 k hp l1 l2).objs.size))) { heap:=zk5 k hp l1 l2,gens:=gn,drawn:=dw,toks:=tk,os:=os }
  rw [z2,z3,z4] at g5
  rw [z1,z2] at g3
  rw [z3] at g4
  rw [z1] at i2
  rw [z4]
  exact h (zk5 k hp l1 l2) g5 g3 g4 i1 i2 λc o e=>get?_push_of_some _ (get?_push_of_some _ (get?_push_of_some _ (get?_push_of_some _ (get?_push_of_some _ e))))
theorem J0 (ok:KdOk k){l1 l2:Addr}{xs ys:Array Value}{Q:Value->Shared->Prop} (cZ:k.sq s.heap l1 xs) (dB:k.sq s.heap l2 ys)
  (made:∀ n h',n=s.heap.objs.size->IsZip h' (n+4) (n+2) (n+3) .none->IsPair h' (n+2) (.ref n) (.ref (n+1))->IsPair h' (n+3) .none .none->k.it h' n l1 0->k.it h' (n+1) l2 0->(∀ c o,s.heap.get? c=some o->h'.get? c=some o)->Q (.ref (n+4)) { s with heap:=h' }) :
  wpAny (model prog w) A (call (type "zip") ([l1,l2].map Value.ref)) Q E s :=
 callType_new F.called_zip (by decide) (F.typeCall_zip_2 _ _) (F.newCall_zip_2 _ _) (λobj=>F.args_object_init_3 obj _ _) F.entry_zip_new (Gu ok l1 l2 xs ys) ⟨cZ,dB,λh' b1 b2 b3 b4 b5 b6=>⟨⟨_,b1,rfl⟩,made _ h' rfl b1 b2 b3 b4 b5 b6⟩⟩
end
section
variable {X:Cx}{k:Kd}
noncomputable def Itz (rd:Hp->Addr->List V->Prop) (l1 l2:Addr):It :=
 ⟨λi H=>∃ xs ys x y,rd H l1 xs/\rd H l2 ys/\xs[i]?=some x/\ys[i]?=some y,
  λi H v H'=>∃ p x y,H p=none/\v=.ref p/\H'=upd H p (.tup [x,y])/\(∀ xs,rd H l1 xs->xs[i]?=some x)/\(∀ ys,rd H l2 ys->ys[i]?=some y),
  λi H=>∃ xs ys,rd H l1 xs/\rd H l2 ys/\(xs.length<=i\/ys.length<=i)⟩
structure KdRd (K:PySem.W.Frag) (k:Kd) (rd:Hp->Addr->List V->Prop):Prop where
 of:∀ {X:Cx}{aa:List (Addr×Obj)}{U:L2.St}{H:Hp}{s:Shared}{a:Addr}{xs:List V},X.K=K->Inv X aa U H s->rd H a xs->∃ ac:List Value,Vals xs ac/\k.sq s.heap a ac.toArray
 inj:∀ {X:Cx}{aa:List (Addr×Obj)}{U:L2.St}{H:Hp}{s:Shared}{a:Addr}{xs ys:List V},X.K=K->Inv X aa U H s->rd H a xs->rd H a ys->xs=ys
theorem BQ (K:PySem.W.Frag):KdRd K kdL (λH a xs=>SqL K H a xs) where
 of:=λe I h=>by subst e;obtain ⟨ac,r,t,_⟩:=I.list h;exact ⟨ac,r,t.isList⟩
 inj:=λe I h h'=>by subst e;exact I.list_inj h h'
theorem CM (K:PySem.W.Frag):KdRd K kdT (λH a xs=>SqT K H a xs) where
 of:=λe I h=>by subst e;obtain ⟨ac,r,t,_⟩:=I.tuple h;exact ⟨ac,r,t⟩
 inj:=λe I h h'=>by subst e;exact I.tuple_inj h h'
theorem Kb {P:Program}{w:World}{K:PySem.W.Frag}{bB:List Expr}{x1:Nat}{tp:Pos}{rd:Hp->Addr->List V->Prop} (ok:KdOk k) (kr:KdRd K k rd){z TI TO i1 i2 l1 l2:Addr} (D:ZipApart z TI TO i1 i2 l1 l2) :
  Turn P w K (.Tuple bB x1 tp) (Itz rd l1 l2) [z,TI,TO,i1,i2] z (λi h=>IsZip h z TI TO .none/\IsPair h TI (.ref i1) (.ref i2)/\(∃ a b,IsPair h TO a b)/\k.it h i1 l1 i/\k.it h i2 l2 i) where
 mem:=by simp
 obj:=λi h st b hb=>by
  obtain ⟨a1,a2,⟨x,y,a3⟩,a4,a5⟩:=st
  rw [mem_cons,mem_cons,mem_cons,mem_cons,mem_singleton] at hb
  rcases hb with rfl | rfl | rfl | rfl | rfl
  ·exact ⟨_,a1,λv q=>by cases (show fields _=Data.cell v from q)⟩
  ·exact ⟨_,a2,λv q=>by cases (show seq _ _=Data.cell v from q)⟩
  ·exact ⟨_,a3,λv q=>by cases (show seq _ _=Data.cell v from q)⟩
  ·exact ok.itObj a4
  ·exact ok.itObj a5
 keep:=λi h h' st kk=>by
  obtain ⟨a1,a2,⟨x,y,a3⟩,a4,a5⟩:=st
  exact ⟨kk _ (by simp) _ a1,kk _ (by simp) _ a2,⟨x,y,kk _ (by simp) _ a3⟩,ok.itAt a4 λo e=>kk _ (by simp) o e,ok.itAt a5 λo e=>kk _ (by simp) o e⟩
 item:=by
  intro X hP hw hK hc i aa s U H E I hf st hg
  subst hP hw
  obtain ⟨a1,a2,⟨av,bv,a3⟩,a4,a5⟩:=st
  obtain ⟨xs,ys,x,y,g1,g2,g3,g4⟩:=hg
  obtain ⟨ac,r1,t1⟩:=kr.of hK I g1
  obtain ⟨bu,r2,t2⟩:=kr.of hK I g2
  obtain ⟨u1,e1,e2⟩:=r1.get g3
  obtain ⟨u2,e3,e4⟩:=r2.get g4
  have hT:s.TypeIs (.ref z) "zip":=⟨_,a1,rfl⟩
  unfold pyNext
  refine wpAny_bind (wpAny_attempt (wpAny_callSpecial?_slot (name:=ofString "__next__") hT F.slot_zip_next (wpAny_call_entry F.slot_zip_next hT F.entry_zip_next (Br ok D a1 a2 a3 a4 a5 t1 t2 ?_ ?_) (F.args_zip_next_1 _))))
  case refine_2 =>
   intro non
   have f1:ac.toArray[i]?=some u1:=by simpa using e1
   have f2:bu.toArray[i]?=some u2:=by simpa using e3
   rw [f1,f2] at non
   rcases non with non | non<;>cases non
  intro y1 y2 k1 k2 h' ⟨_,b5⟩ b1 b2 ⟨b3,b4⟩ b7
  have f1:ac.toArray[i]?=some u1:=by simpa using e1
  have f2:bu.toArray[i]?=some u2:=by simpa using e3
  rw [f1] at k1;cases k1
  rw [f2] at k2;cases k2
  refine ⟨_,rfl,wpAny_pure ⟨.ref s.heap.objs.size,rfl,wpAny_letOwnedTupleGo_zip b1 λh2 c1 c2=>?_⟩⟩
  have lt:∀ {b o},s.heap.get? b=some o->b≠s.heap.objs.size:=λ{b o} e=>ne_of_lt (lt_size e)
  have gG:=lt a1
  have mn:=lt a2
  have mq:=lt a3
  have kk:∀ b u,b∉[z,TI,TO,i1,i2]->s.heap.get? b=some u->h2.get? b=some u:=λb u hb e=>by
   simp only [mem_cons,not_mem_nil,or_false,not_or] at hb
   exact c2.extBut _ _ hb.1 (b7 b u ⟨hb.1,hb.2.2.1,hb.2.2.2.1,hb.2.2.2.2⟩ e)
  have pT:IsPair h2 s.heap.objs.size u1 u2:=c2.extBut _ _ (Ne.symm gG) b5
  have I1:Inv X aa U (upd H s.heap.objs.size (.tup [x,y])) { s with heap:=h2 }:=Df (t':=s.toks) I hf kk (le_refl _) ⟨by show 2<=sizeLine;rw [sizeLine_eq];decide,[u1,u2],.cons e2 (.cons e4 .nil),⟨_,pT,rfl,_,rfl⟩⟩
  have fr:=I.hok.fresh (le_refl s.heap.objs.size)
  refine ⟨.ref s.heap.objs.size,_,I1,rfl,⟨s.heap.objs.size,x,y,fr,rfl,rfl,λzs hz=>by rw [kr.inj hK I hz g1];exact g3,λzs hz=>by rw [kr.inj hK I hz g2];exact g4⟩,⟨c1,c2.extBut _ _ D.TIz (b7 _ _ ⟨D.TIz,D.TITO,D.TIi1,D.TIi2⟩ a2),⟨u1,u2,c2.extBut _ _ D.TOz b2⟩,ok.itAt b3 λo e=>c2.extBut _ _ D.i1z e,ok.itAt b4 λo e=>c2.extBut _ _ D.i2z e⟩,λb hb=>?_⟩
  have kc:=(hf b hb).1
  have nb:b≠s.heap.objs.size:=by
   rw [mem_cons,mem_cons,mem_cons,mem_cons,mem_singleton] at hb
   rcases hb with rfl | rfl | rfl | rfl | rfl
   ·exact gG
   ·exact mn
   ·exact mq
   ·exact ne_of_lt (ok.itLt a4)
   ·exact ne_of_lt (ok.itLt a5)
  rw [sO nb];exact kc
 done:=by
  intro X hP hw hK hc i aa s U H E I hf st hg
  subst hP hw
  obtain ⟨a1,a2,⟨av,bv,a3⟩,a4,a5⟩:=st
  obtain ⟨xs,ys,g1,g2,g3⟩:=hg
  obtain ⟨ac,r1,t1⟩:=kr.of hK I g1
  obtain ⟨bu,r2,t2⟩:=kr.of hK I g2
  have cZ:=r1.length
  have dB:=r2.length
  have hT:s.TypeIs (.ref z) "zip":=⟨_,a1,rfl⟩
  unfold pyNext
  refine wpAny_bind (wpAny_attempt (wpAny_callSpecial?_slot (name:=ofString "__next__") hT F.slot_zip_next (wpAny_call_entry F.slot_zip_next hT F.entry_zip_next (Br ok D a1 a2 a3 a4 a5 t1 t2 ?_ λ_=>⟨I.ok.hd hc,λh' e hk he=>?_⟩) (F.args_zip_next_1 _))))
  ·intro y1 y2 k1 k2
   have m1:=(Array.getElem?_eq_some_iff.mp k1).1
   have m2:=(Array.getElem?_eq_some_iff.mp k2).1
   simp at m1 m2
   omega
  ·obtain ⟨o,ho,kf⟩:=he
   refine wpAny_bind (wpAny_isInstance (T := "StopIteration") (b:=true) ⟨o,ho,kf⟩ isSubtype_stop ?_)
   refine wpAny_pure ⟨rfl,vK (t':=s.toks) I hf λb u hb e=>?_⟩
   simp only [mem_cons,not_mem_nil,or_false,not_or] at hb
   exact hk b u ⟨hb.1,hb.2.2.1,hb.2.2.2.1,hb.2.2.2.2⟩ e
 self:=λ_ _ _ _ _ st h=>wpAny_pyIter_zip st.1 h
end
section
variable {X:Cx}{B:BB}{a b c e:Expr}{es:List Expr}{pos:Pos}{ga gb gc:M D}
noncomputable def iZip (K:PySem.W.Frag) (ta:TA):TI:=λU H R=>ta U H λvs H1=>(∃ l1 l2 xs ys,vs=[.ref l1,.ref l2]/\SqL K H1 l1 xs/\SqL K H1 l2 ys/\R (Itz (λH a xs=>SqL K H a xs) l1 l2) H1)\/(∃ l1 l2 xs ys,vs=[.ref l1,.ref l2]/\SqT K H1 l1 xs/\SqT K H1 l2 ys/\R (Itz (λH a xs=>SqT K H a xs) l1 l2) H1)
theorem A8 {k:Kd}{rd:Hp->Addr->List V->Prop} (ok:KdOk k) (kr:KdRd X.K k rd){bB:List Expr}{x1:Nat}{tp:Pos}{aa:List (Addr×Obj)}{U:L2.St}{H:Hp}{s:Shared}{R:It->Hp->Prop}{l1 l2:Addr}{xs ys:List V} (I:Inv X aa U H s) (h1:rd H l1 xs) (h2:rd H l2 ys) (q:R (Itz rd l1 l2) H) :
  wpAny (model X.prog X.w) X.A (call (.type "zip") [.ref l1,.ref l2]) (λv s1=>wpAny (model X.prog X.w) X.A (pyIter v) (PIE X aa U (.Tuple bB x1 tp) R) X.xe s1) X.xe s:=by
 obtain ⟨ac,r1,t1⟩:=kr.of rfl I h1
 obtain ⟨bu,r2,t2⟩:=kr.of rfl I h2
 refine J0 ok t1 t2 λn h' hn a1 a2 a3 a4 a5 a6=>wpAny_pyIter_zip a1 ?_
 subst hn
 have I1:Inv X aa U H { s with heap:=h' }:=I.kept (t':=s.toks) a6
 refine ⟨s.heap.objs.size+4,[s.heap.objs.size+4,s.heap.objs.size+2,s.heap.objs.size+3,s.heap.objs.size,s.heap.objs.size+1],_,_,H,rfl,I1,Kb ok kr (zipApart_new (ok.sqLt t1) (ok.sqLt t2)),⟨a1,a2,⟨_,_,a3⟩,a4,a5⟩,λb hb=>?_,q⟩
 rw [mem_cons,mem_cons,mem_cons,mem_cons,mem_singleton] at hb
 have up:∀ n,FpOk X aa H (s.heap.objs.size+n):=λn=>I.fpOk (le_add_right _ _) (I.hok.fresh (le_add_right _ _))
 rcases hb with rfl | rfl | rfl | rfl | rfl
 ·exact up 4
 ·exact up 2
 ·exact up 3
 ·exact up 0
 ·exact up 1
theorem Hx {bB:List Expr}{x1:Nat}{tp p:Pos}{ta:TA} (hg:Gl X "zip") (hm:X.mg "zip"=none) (ha:PA X [a,b] ta) (hs:starEach [a,b] X.env=[(false,eval a X.env),(false,eval b X.env)]:=by rfl) (b9:starEach [b] X.env=[(false,eval b X.env)]:=by rfl) :
  PI X (.Tuple bB x1 tp) (.Call (.Name "zip" p) [a,b] [] pos) (iZip X.K ta):=by
 intro aa s U H R I h
 refine Call_ (uy I hg hm boot_zip (PyProof.Rows.callWith_type1 (thn (ha pos aa s U H _ I h) λus s1 ⟨vs,H1,I1,r1,q1⟩=>?_) (by rw [hs,b9]) (by rw [b9];rfl)))
 rcases q1 with ⟨l1,l2,xs,ys,e,h1,h2,q⟩ | ⟨l1,l2,xs,ys,e,h1,h2,q⟩
 ·subst e
  obtain ⟨u1,u2,rfl,e1,e2⟩:=r1.two
  cases e1;cases e2
  exact A8 CC (BQ _) I1 h1 h2 q
 ·subst e
  obtain ⟨u1,u2,rfl,e1,e2⟩:=r1.two
  cases e1;cases e2
  exact A8 Cn (CM _) I1 h1 h2 q
noncomputable def pairsD (xs ys:List D):List D:=(xs.zip ys).map λp=>.tup [p.1,p.2]
noncomputable def zipI (ds:List D):Option (List D):=match ds with
 | [.lst xs,.lst ys]=>some (pairsD xs ys)
 | [.tup xs,.tup ys]=>some (pairsD xs ys)
 | _=>none
theorem EE {K:PySem.W.Frag}{I:Hp}{rd:Hp->Addr->List V->Prop}{l1 l2:Addr}{xs ys:List V}{ds es:List D} (mono:∀ {H a xs},Same I H->rd I a xs->rd H a xs) (inj:∀ {H},Same I H->(∀ zs,rd H l1 zs->zs=xs)/\(∀ zs,rd H l2 zs->zs=ys)\/True) (h1:rd I l1 xs) (h2:rd I l2 ys) (i1:IsA K I ds xs) (i2:IsA K I es ys):Yields K I (pairsD ds es) (Itz rd l1 l2):=λi H s=>by
 have L1:=i1.length
 have L2:=i2.length
 refine ⟨λd hd=>?_,λhi=>⟨xs,ys,mono s h1,mono s h2,?_⟩⟩
 ·unfold pairsD at hd
  obtain ⟨q,e1,rfl⟩:=getMap hd
  obtain ⟨e2,e3⟩:=List.getElem?_zip_eq_some.mp e1
  obtain ⟨x,f1,f2⟩:=i1.get e2
  obtain ⟨y,f3,f4⟩:=i2.get e3
  refine ⟨⟨xs,ys,x,y,mono s h1,mono s h2,f1,f3⟩,λv H2 hy=>?_⟩
  obtain ⟨p,x',y',g1,g2,g3,g4,g5⟩:=hy
  have k1:=g4 xs (mono s h1)
  have k2:=g5 ys (mono s h2)
  rw [f1] at k1;cases k1
  rw [f3] at k2;cases k2
  exact .inr ⟨p,[q.1,q.2],[x,y],rfl,g2,g1,g3,IsA.cons f2 (IsA.cons f4 IsA.nil)⟩
 ·unfold pairsD at hi
  rw [length_map,length_zip] at hi
  omega
theorem u7 {bB:List Expr}{x1:Nat}{tp p:Pos}{t:M (List D)} (hg:Gl X "zip") (hm:X.mg "zip"=none) (ha:AD X B [a,b] t) (hs:starEach [a,b] X.env=[(false,eval a X.env),(false,eval b X.env)]:=by rfl) (b9:starEach [b] X.env=[(false,eval b X.env)]:=by rfl) :
  ITD X B (.Tuple bB x1 tp) (.Call (.Name "zip" p) [a,b] [] pos) (fn1 zipI t):=PI.imp (Hx hg hm ha hs b9) λU H R q=>by
 obtain ⟨G,I,Y,ds,af,r,e1,k⟩:=q
 obtain ⟨d,ab,e2,e3⟩:=sN e1
 obtain ⟨e4,rfl⟩:=tx e3
 refine ⟨G,I,Y,d,_,r,e2,λvs H1 I1 r1 g1 hd=>?_⟩
 unfold zipI at e4
 split at e4
 ·cases e4
  obtain ⟨x,y,rfl,hx,hy⟩:=hd.two
  obtain ⟨l1,xs,rfl,h1,h2⟩:=tm hx
  obtain ⟨l2,ys,rfl,h3,h4⟩:=tm hy
  exact .inl ⟨l1,l2,xs,ys,rfl,(Same.rdK r1.iH h1).sq,(Same.rdK r1.iH h3).sq,k _ _ _ r1 g1 (EE (λs h=>by rcases h with h | h;exact .inl (Same.rd s h);exact .inr h) (λ_=>.inr trivial) h1.sq h3.sq h2 h4)⟩
 ·cases e4
  obtain ⟨x,y,rfl,hx,hy⟩:=hd.two
  obtain ⟨l1,xs,rfl,h1,h2⟩:=sZ hx
  obtain ⟨l2,ys,rfl,h3,h4⟩:=sZ hy
  exact .inr ⟨l1,l2,xs,ys,rfl,Same.sqT r1.iH h1,Same.sqT r1.iH h3,k _ _ _ r1 g1 (EE (λs h=>Same.sqT s h) (λ_=>.inr trivial) h1 h3 h2 h4)⟩
 ·cases e4
section
variable {k:Kd}
theorem drawsK (ok:KdOk k){prog:Program}{w:World}{A:Around} (hh:A.handled=none) (it l:Addr) (dF:l≠it) (ag:Array Value):Draws prog w A it [it,l] ag.size (λi v=>ag[i]?=some v) (λi h=>k.it h it l i/\k.sq h l ag) where
 live:=λi h st=>by obtain ⟨o,e,_⟩:=ok.itObj st.1;exact ⟨o,e⟩
 frame:=λi h h' st kk=>⟨ok.itAt st.1 λo e=>kk _ (by simp) o e,ok.sqAt st.2 λo e=>kk _ (by simp) o e⟩
 item:=λi s Q E hi st hQ=>ok.item st.1 st.2 (x:=ag[i]) (by simp [hi]) λh' h1 h2=>hQ _ h' s.toks (by simp [hi]) ⟨h1,ok.sqAt st.2 λo e=>h2.extBut _ _ dF e⟩ h2
 done:=λs Q E st hE=>ok.stop hh st.1 st.2 (by simp) hE
theorem Fk (ok:KdOk k) (l:Addr) (ag:Array Value) :
  Meets (Builtin.«enumerate.__new__» ⟨[.type "enumerate", .ref l],[]⟩) (λ_ R s=>k.sq s.heap l ag ∧
   R (.ok (.ret (.ref (s.heap.push { cls:=.type k.nm,data:=.fields #[.ref l,.int 0 0] }).objs.size)))
    { s with heap:=(s.heap.push { cls:=.type k.nm,data:=.fields #[.ref l,.int 0 0] }).push { cls:=.type "enumerate", data:=.fields #[.none,.bool false,.ref s.heap.objs.size,rawInt 0,.none,.none] } }) :=
 .of_wp λprog w A R s h=>by
  obtain ⟨hp,gn,dw,tk,os⟩:=s
  obtain ⟨hl,h⟩:=h
  have gF:=sub_enumerate
  have hL:k.sq (Shared.heap ⟨hp,gn,dw,tk,os⟩) l ag:=hl
  wp_walk using ok.iter hL
  refine wpAny_stack_any λframes=>wpAny_pure ?_
  split
  next c _ _ _ _ _=>cases c == type "enumerate"<;>(wp_walk using ok.iter hL;exact ⟨_,rfl,h⟩)
  next=>wp_walk using ok.iter hL;exact ⟨_,rfl,h⟩
end
end
section
variable {prog:Program}{w:World}{A:Around}{E:Value->Shared->Prop}{s:Shared}{k:Kd}
noncomputable abbrev en1 (k:Kd) (h:Heap) (l:Addr):Heap:=h.push { cls:=.type k.nm,data:=.fields #[.ref l,.int 0 0] }
noncomputable abbrev en2 (k:Kd) (h:Heap) (l:Addr):Heap:=(en1 k h l).push { cls:=.type "enumerate", data:=.fields #[.none,.bool false,.ref h.objs.size,rawInt 0,.none,.none] }
theorem IN (ok:KdOk k){l:Addr}{ag:Array Value}{Q:Value->Shared->Prop} (hL:k.sq s.heap l ag)
  (made:∀ n g,n=s.heap.objs.size->IsEnum g (n+1) n 0 .none->k.it g n l 0->(∀ b o,s.heap.get? b=some o->g.get? b=some o)->Q (.ref (n+1)) { s with heap:=g }) :
  wpAny (model prog w) A (call (type "enumerate") ([l].map Value.ref)) Q E s:=by
 have aZ:(en1 k s.heap l).objs.size=s.heap.objs.size+1:=size_push ..
 have iJ:(en2 k s.heap l).get? (en1 k s.heap l).objs.size=some _:=get?_push_size _ rfl
 rw [aZ] at iJ
 refine callType_new F.called_enumerate (by decide) (F.typeCall_enumerate_1 _) (F.newCall_enumerate_1 _) (λobj=>F.args_object_init_2 obj _) F.entry_enumerate_new (Fk ok l ag) ⟨hL,?_⟩
 have put:Q (.ref (s.heap.objs.size+1)) { s with heap:=en2 k s.heap l }:=made _ _ rfl iJ (ok.itAt ok.new λo e=>get?_push_of_some _ e) λb o x=>get?_push_of_some _ (get?_push_of_some _ x)
 rw [← aZ] at put iJ
 exact ⟨⟨_,iJ,rfl⟩,put⟩
end
section
variable {X:Cx}{B:BB}{a b c e:Expr}{es:List Expr}{pos:Pos}{ga gb gc:M D}{k:Kd}
noncomputable def Ite (rd:Hp->Addr->List V->Prop) (l:Addr):It :=
 ⟨λi H=>∃ xs x,rd H l xs/\xs[i]?=some x,λi H v H'=>∃ p x,H p=none/\v=.ref p/\H'=upd H p (.tup [.int i,x])/\(∀ xs,rd H l xs->xs[i]?=some x),λi H=>∃ xs,rd H l xs/\xs.length<=i⟩
theorem Kg {P:Program}{w:World}{K:PySem.W.Frag}{bB:List Expr}{x1:Nat}{tp:Pos}{rd:Hp->Addr->List V->Prop} (ok:KdOk k) (kr:KdRd K k rd){z it l:Addr} (kh:z≠it) (mr:l≠it) (o7:z≠l) :
  Turn P w K (.Tuple bB x1 tp) (Ite rd l) [z,it] z (λi h=>(∃ old,IsEnum h z it i old)/\k.it h it l i) where
 mem:=by simp
 obj:=λi h st b hb=>by
  obtain ⟨⟨old,a1⟩,a2⟩:=st
  rw [mem_cons,mem_singleton] at hb
  rcases hb with rfl | rfl
  ·exact ⟨_,a1,λv q=>by cases (show fields _=Data.cell v from q)⟩
  ·exact ok.itObj a2
 keep:=λi h h' st kk=>by
  obtain ⟨⟨old,a1⟩,a2⟩:=st
  exact ⟨⟨old,kk _ (by simp) _ a1⟩,ok.itAt a2 λo e=>kk _ (by simp) o e⟩
 item:=by
  intro X hP hw hK hc i aa s U H E I hf st hg
  subst hP hw
  obtain ⟨⟨old,a1⟩,a2⟩:=st
  obtain ⟨xs,x,g1,g3⟩:=hg
  obtain ⟨ac,r1,t1⟩:=kr.of hK I g1
  obtain ⟨u1,e1,e2⟩:=r1.get g3
  have aJ:i < ac.toArray.size:=by
   have:=(List.getElem?_eq_some_iff.mp e1).1
   simpa using this
  have D:=drawsK ok (prog:=X.prog) (w:=X.w) (A:=X.A.in1) (I.ok.hd hc) it l mr ac.toArray
  refine wpAny_pyNext_enum_itemD D a1 ⟨a2,t1⟩ aJ kh (by simp [kh,o7]) λy h' tk b0 b1 b2 b3 b4 b5=>?_
  have hy:y=u1:=by
   have dE:ac.toArray[i]?=some u1:=by simpa using e1
   have mw:ac.toArray[i]?=some y:=b0
   rw [dE] at mw;cases mw;rfl
  subst hy
  refine ⟨.ref s.heap.objs.size,rfl,wpAny_letOwnedTupleGo_enum b1 λh2 c1 c2=>?_⟩
  have gG:z≠s.heap.objs.size:=ne_of_lt (lt_size a1)
  have o8:it≠s.heap.objs.size:=ne_of_lt (ok.itLt a2)
  have kk:∀ b u,b∉[z,it]->s.heap.get? b=some u->h2.get? b=some u:=λb u hb e=>by
   simp only [mem_cons,not_mem_nil,or_false,not_or] at hb
   exact c2.extBut _ _ hb.1 (b5 b u hb.1 hb.2 e)
  have pT:=c2.extBut _ _ (Ne.symm gG) b3
  have I1:Inv X aa U (upd H s.heap.objs.size (.tup [.int i,x])) { s with heap:=h2,toks:=tk+1 }:=Df (t':=tk+1) I hf kk (le_refl _) ⟨by show 2<=sizeLine;rw [sizeLine_eq];decide,[.int i tk,y],.cons ⟨_,rfl⟩ (.cons e2 .nil),⟨_,pT,rfl,_,rfl⟩⟩
  have fr:=I.hok.fresh (le_refl s.heap.objs.size)
  refine ⟨.ref s.heap.objs.size,_,I1,rfl,⟨s.heap.objs.size,x,fr,rfl,rfl,λzs hz=>by rw [kr.inj hK I hz g1];exact g3⟩,⟨⟨y,c1⟩,ok.itAt b2.1 λo e=>c2.extBut _ _ kh.symm e⟩,λb hb=>?_⟩
  have kc:=(hf b hb).1
  have nb:b≠s.heap.objs.size:=by
   rw [mem_cons,mem_singleton] at hb
   rcases hb with rfl | rfl
   ·exact gG
   ·exact o8
  rw [sO nb];exact kc
 done:=by
  intro X hP hw hK hc i aa s U H E I hf st hg
  subst hP hw
  obtain ⟨⟨old,a1⟩,a2⟩:=st
  obtain ⟨xs,g1,g3⟩:=hg
  obtain ⟨ac,r1,t1⟩:=kr.of hK I g1
  have cZ:=r1.length
  have hT:s.TypeIs (.ref z) "enumerate":=⟨_,a1,rfl⟩
  have hx:ac.toArray[i]?=none:=by simp;omega
  unfold pyNext
  refine wpAny_bind (wpAny_attempt (wpAny_callSpecial?_slot (name:=ofString "__next__") hT F.slot_enumerate_next (wpAny_call_entry F.slot_enumerate_next hT F.entry_enumerate_next (wpAny_bind (wpAny_of_eq (a:=(Value.ref z,[])) rfl (wpAny_bind (wpAny_field (i:=2) a1 rfl (x:=.ref it) rfl ?_)))) (F.args_enumerate_next_1 _))))
  refine wpAny_bind (ok.stop (I.ok.hd hc) a2 t1 hx λh' x dZ gB=>?_)
  obtain ⟨o,ho,kf⟩:=gB
  refine wpAny_bind (wpAny_isInstance (T := "StopIteration") (b:=true) ⟨o,ho,kf⟩ isSubtype_stop ?_)
  refine wpAny_pure ⟨rfl,vK (t':=s.toks) I hf λb u hb e=>?_⟩
  simp only [mem_cons,not_mem_nil,or_false,not_or] at hb
  exact dZ b u hb.2 e
 self:=λ_ _ _ _ _ st h=>by obtain ⟨⟨old,a1⟩,_⟩:=st;exact wpAny_pyIter_enum a1 h
noncomputable def iEnum (K:PySem.W.Frag) (ta:TA):TI:=λU H R=>ta U H λvs H1=>(∃ l xs,vs=[.ref l]/\SqL K H1 l xs/\R (Ite (λH a xs=>SqL K H a xs) l) H1)\/(∃ l xs,vs=[.ref l]/\SqT K H1 l xs/\R (Ite (λH a xs=>SqT K H a xs) l) H1)
theorem DY {rd:Hp->Addr->List V->Prop} (ok:KdOk k) (kr:KdRd X.K k rd){bB:List Expr}{x1:Nat}{tp:Pos}{aa:List (Addr×Obj)}{U:L2.St}{H:Hp}{s:Shared}{R:It->Hp->Prop}{l:Addr}{xs:List V} (I:Inv X aa U H s) (h1:rd H l xs) (q:R (Ite rd l) H) :
  wpAny (model X.prog X.w) X.A (call (.type "enumerate") [.ref l]) (λv s1=>wpAny (model X.prog X.w) X.A (pyIter v) (PIE X aa U (.Tuple bB x1 tp) R) X.xe s1) X.xe s:=by
 obtain ⟨ac,r1,t1⟩:=kr.of rfl I h1
 refine IN ok t1 λn h' hn a1 a4 a6=>wpAny_pyIter_enum a1 ?_
 subst hn
 have I1:Inv X aa U H { s with heap:=h' }:=I.kept (t':=s.toks) a6
 have lt:=ok.sqLt t1
 refine ⟨s.heap.objs.size+1,[s.heap.objs.size+1,s.heap.objs.size],_,_,H,rfl,I1,Kg ok kr (succ_ne_self _) (ne_of_lt lt) (ne_of_gt (lt_succ_of_lt lt)),⟨⟨_,a1⟩,a4⟩,λb hb=>?_,q⟩
 rw [mem_cons,mem_singleton] at hb
 have up:∀ n,FpOk X aa H (s.heap.objs.size+n):=λn=>I.fpOk (le_add_right _ _) (I.hok.fresh (le_add_right _ _))
 rcases hb with rfl | rfl
 ·exact up 1
 ·exact up 0
theorem Ir {bB:List Expr}{x1:Nat}{tp p:Pos}{ta:TA} (hg:Gl X "enumerate") (hm:X.mg "enumerate"=none) (ha:PA X [a] ta) (hs:starEach [a] X.env=[(false,eval a X.env)]:=by rfl) :
  PI X (.Tuple bB x1 tp) (.Call (.Name "enumerate" p) [a] [] pos) (iEnum X.K ta):=by
 intro aa s U H R I h
 refine Call_ (uy I hg hm boot_enumerate (PyProof.Rows.callWith_type1 (thn (ha pos aa s U H _ I h) λus s1 ⟨vs,H1,I1,r1,q1⟩=>?_) hs rfl))
 rcases q1 with ⟨l1,xs,e,h1,q⟩ | ⟨l1,xs,e,h1,q⟩
 ·subst e
  obtain ⟨u1,rfl,e1⟩:=r1.one
  cases e1
  exact DY CC (BQ _) I1 h1 q
 ·subst e
  obtain ⟨u1,rfl,e1⟩:=r1.one
  cases e1
  exact DY Cn (CM _) I1 h1 q
noncomputable def numD:Nat->List D->List D
 | _,[]=>[]
 | n,d::ds=>.tup [.int n,d]::numD (n+1) ds
theorem wz:∀ {ds:List D}{n i:Nat}{d:D},(numD n ds)[i]?=some d->∃ x,ds[i]?=some x/\d=.tup [.int ((n+i:Nat):Int),x]
 | [],n,i,d,h=>by rw [numD] at h;simp at h
 | c::ds,n,0,d,h=>by rw [numD] at h;simp at h;exact ⟨c,rfl,h.symm⟩
 | c::ds,n,i+1,d,h=>by
  rw [numD] at h
  obtain ⟨x,e1,e2⟩:=wz (i:=i) (by simpa using h)
  refine ⟨x,by simpa using e1,?_⟩
  rw [e2,show n+1+i=n+(i+1) from by omega]
theorem Ci:∀ (ds:List D) (n:Nat),(numD n ds).length=ds.length
 | [],n=>by rw [numD]
 | c::ds,n=>by rw [numD,length_cons,length_cons,Ci ds]
noncomputable def enumI (ds:List D):Option (List D):=match ds with
 | [.lst xs]=>some (numD 0 xs)
 | [.tup xs]=>some (numD 0 xs)
 | _=>none
theorem BK {K:PySem.W.Frag}{I:Hp}{rd:Hp->Addr->List V->Prop}{l:Addr}{xs:List V}{ds:List D} (mono:∀ {H a xs},Same I H->rd I a xs->rd H a xs) (h1:rd I l xs) (i1:IsA K I ds xs):Yields K I (numD 0 ds) (Ite rd l):=λi H s=>by
 refine ⟨λd hd=>?_,λhi=>⟨xs,mono s h1,?_⟩⟩
 ·obtain ⟨y,e1,rfl⟩:=wz hd
  obtain ⟨x,f1,f2⟩:=i1.get e1
  refine ⟨⟨xs,x,mono s h1,f1⟩,λv H2 hy=>?_⟩
  obtain ⟨p,x',g1,g2,g3,g4⟩:=hy
  have k1:=g4 xs (mono s h1)
  rw [f1] at k1;cases k1
  refine .inr ⟨p,_,[.int i,x],rfl,g2,g1,g3,IsA.cons ?_ (IsA.cons f2 IsA.nil)⟩
  rw [zero_add]
  exact Is.int _
 ·rw [Ci,i1.length] at hi
  exact hi
theorem CD {bB:List Expr}{x1:Nat}{tp p:Pos}{t:M (List D)} (hg:Gl X "enumerate") (hm:X.mg "enumerate"=none) (ha:AD X B [a] t) (hs:starEach [a] X.env=[(false,eval a X.env)]:=by rfl) :
  ITD X B (.Tuple bB x1 tp) (.Call (.Name "enumerate" p) [a] [] pos) (fn1 enumI t):=PI.imp (Ir hg hm ha hs) λU H R q=>by
 obtain ⟨G,I,Y,ds,af,r,e1,k⟩:=q
 obtain ⟨d,ab,e2,e3⟩:=sN e1
 obtain ⟨e4,rfl⟩:=tx e3
 refine ⟨G,I,Y,d,_,r,e2,λvs H1 I1 r1 g1 hd=>?_⟩
 unfold enumI at e4
 split at e4
 ·cases e4
  obtain ⟨x,rfl,hx⟩:=hd.one
  obtain ⟨l1,xs,rfl,h1,h2⟩:=tm hx
  exact .inl ⟨l1,xs,rfl,(Same.rdK r1.iH h1).sq,k _ _ _ r1 g1 (BK (λs h=>by rcases h with h | h;exact .inl (Same.rd s h);exact .inr h) h1.sq h2)⟩
 ·cases e4
  obtain ⟨x,rfl,hx⟩:=hd.one
  obtain ⟨l1,xs,rfl,h1,h2⟩:=sZ hx
  exact .inr ⟨l1,xs,rfl,Same.sqT r1.iH h1,k _ _ _ r1 g1 (BK (λs h=>Same.sqT s h) h1 h2)⟩
 ·cases e4
noncomputable def blsD:List D->Option (List Bool)
 | []=>some []
 | .bl b::ds=>match blsD ds with
  | some bs=>some (b::bs)
  | none=>none
 | _=>none
theorem Al:∀ {ds:List D}{bs:List Bool},blsD ds=some bs->ds=bs.map .bl
 | [],bs,h=>by rw [blsD] at h;cases h;rfl
 | .bl b::ds,bs,h=>by
  rw [blsD] at h
  cases e:blsD ds with
  | none=>rw [e] at h;cases h
  | some cs=>rw [e] at h;cases h;rw [Al e];rfl
 | .non::_,_,h=>by cases h
 | .int _::_,_,h=>by cases h
 | .str _::_,_,h=>by cases h
 | .tup _::_,_,h=>by cases h
 | .lst _::_,_,h=>by cases h
theorem Az {K:PySem.W.Frag}{I:Hp}:∀ {bs:List Bool}{xs:List V},IsA K I (bs.map .bl) xs->xs=bs.map .bl
 | [],xs,h=>h.nil_inv
 | b::bs,xs,h=>by
  obtain ⟨x,r,rfl,h1,h2⟩:=h.cons_inv
  rw [tV h1,Az h2];rfl
theorem AM:∀ {bs:List Bool}{us:List Value},Vals (bs.map .bl) us->us=bs.map .bool
 | [],us,h=>by cases h;rfl
 | b::bs,us,h=>by
  cases h with
  | cons r t=>rw [AM t];cases r;rfl
theorem Fm (bs:List Bool):(range bs.length).all (λi=>bs.getD i true)=bs.all id:=by
 induction bs with
 | nil=>rfl
 | cons b bs ih =>
  rw [length_cons,range_succ_eq_map,all_cons,List.all_map,all_cons]
  congr 1
theorem Kx (bs:List Bool):(range bs.length).any (λi=>bs.getD i true)=bs.any id:=by
 induction bs with
 | nil=>rfl
 | cons b bs ih =>
  rw [length_cons,range_succ_eq_map,any_cons,any_map,any_cons]
  congr 1
theorem HX (hc:X.calm=true):CallR X (.builtin "all") (λxs H Q=>∃ (p:Addr) (bs:List Bool),xs=[.ref p]/\SqL X.K H p (bs.map .bl)/\Q (.bl (bs.all id)) H):=by
 intro aa s U H xs us Q I r h
 obtain ⟨p,bs,rfl,hq,q⟩:=h
 obtain ⟨u,rfl,ru⟩:=vals1 r
 cases ru
 obtain ⟨ac,rv,t,hz⟩:=I.list hq
 have:=AM rv
 subst this
 have lt:p < s.heap.objs.size:=by obtain ⟨_,e,_⟩:=t.isList;exact lt_size e
 refine call_all_walk (wpAny_pyIter_list t.isList ?_)
 refine ⟨s.heap.objs.size,_,_,_,_,_,λi=>bs.getD i true,rfl,Walks.list (A:=X.A.in1) (I.ok.hd hc) s.heap.objs.size p (ne_of_lt lt) _,⟨⟨_,get?_push_size _ rfl,rfl,rfl⟩,t.isList.push _⟩,?_,?_⟩
 ·intro i v s' Q' E' hv hQ
  have cF:(bs.map Value.bool)[i]?=some v:=by simpa using hv
  obtain ⟨b,e1,rfl⟩:=getMap cF
  have hQ:Q' (bs.getD i true) s':=hQ
  rw [getD_eq_getElem?_getD,e1] at hQ
  exact wpAny_truthy_bool hQ
 ·intro h' tk kk
  have e1:(bs.map Value.bool).toArray.size=bs.length:=by simp
  rw [e1,Fm]
  refine ⟨.bl (bs.all id),H,I.kept λb o e=>kk b o (by simp only [mem_singleton];exact ne_of_lt (lt_size e)) (get?_push_of_some _ e),rfl,q⟩
theorem FN (hc:X.calm=true):CallR X (.builtin "any") (λxs H Q=>∃ (p:Addr) (bs:List Bool),xs=[.ref p]/\SqL X.K H p (bs.map .bl)/\Q (.bl (bs.any id)) H):=by
 intro aa s U H xs us Q I r h
 obtain ⟨p,bs,rfl,hq,q⟩:=h
 obtain ⟨u,rfl,ru⟩:=vals1 r
 cases ru
 obtain ⟨ac,rv,t,hz⟩:=I.list hq
 have:=AM rv
 subst this
 have lt:p < s.heap.objs.size:=by obtain ⟨_,e,_⟩:=t.isList;exact lt_size e
 refine call_any_walk (wpAny_pyIter_list t.isList ?_)
 refine ⟨s.heap.objs.size,_,_,_,_,_,λi=>bs.getD i true,rfl,Walks.list (A:=X.A.in1) (I.ok.hd hc) s.heap.objs.size p (ne_of_lt lt) _,⟨⟨_,get?_push_size _ rfl,rfl,rfl⟩,t.isList.push _⟩,?_,?_⟩
 ·intro i v s' Q' E' hv hQ
  have cF:(bs.map Value.bool)[i]?=some v:=by simpa using hv
  obtain ⟨b,e1,rfl⟩:=getMap cF
  have hQ:Q' (bs.getD i true) s':=hQ
  rw [getD_eq_getElem?_getD,e1] at hQ
  exact wpAny_truthy_bool hQ
 ·intro h' tk kk
  have e1:(bs.map Value.bool).toArray.size=bs.length:=by simp
  rw [e1,Kx]
  refine ⟨.bl (bs.any id),H,I.kept λb o e=>kk b o (by simp only [mem_singleton];exact ne_of_lt (lt_size e)) (get?_push_of_some _ e),rfl,q⟩
noncomputable def allF (ds:List D):Option D:=match ds with
 | [.lst xs]=>match blsD xs with
  | some bs=>some (.bl (bs.all id))
  | none=>none
 | _=>none
noncomputable def anyF (ds:List D):Option D:=match ds with
 | [.lst xs]=>match blsD xs with
  | some bs=>some (.bl (bs.any id))
  | none=>none
 | _=>none
theorem z8 {p:Pos}{t:M (List D)} (hc:X.calm=true) (hg:Gl X "all") (hm:X.mg "all"=none) (ha:AD X B [e] t) (he:starEach [e] X.env=(false,eval e X.env)::starEach [] X.env:=by rfl) (az:(backTo pos (starEach [] X.env)).any (·.1)=false:=by rfl) :
  ED X B (.Call (.Name "all" p) [e] [] pos) (fn1 allF t):=uG (HX hc) (λds d e B G I H U Y xs Q r h k=>by
 unfold allF at e
 split at e
 ·split at e
  ·rename_i bs eb
   cases e
   have:=Al eb
   subst this
   obtain ⟨x,rfl,hx⟩:=h.one
   obtain ⟨q,zs,rfl,h3,h4⟩:=tm hx
   have:=Az h4
   subst this
   exact ⟨q,bs,rfl,(Same.rdK r.iH h3).sq,k.now r (Is.bl _)⟩
  ·cases e
 ·cases e) hg hm boot_all ha (by decide) (by decide) he az
theorem KZ {p:Pos}{t:M (List D)} (hc:X.calm=true) (hg:Gl X "any") (hm:X.mg "any"=none) (ha:AD X B [e] t) (he:starEach [e] X.env=(false,eval e X.env)::starEach [] X.env:=by rfl) (az:(backTo pos (starEach [] X.env)).any (·.1)=false:=by rfl) :
  ED X B (.Call (.Name "any" p) [e] [] pos) (fn1 anyF t):=uG (FN hc) (λds d e B G I H U Y xs Q r h k=>by
 unfold anyF at e
 split at e
 ·split at e
  ·rename_i bs eb
   cases e
   have:=Al eb
   subst this
   obtain ⟨x,rfl,hx⟩:=h.one
   obtain ⟨q,zs,rfl,h3,h4⟩:=tm hx
   have:=Az h4
   subst this
   exact ⟨q,bs,rfl,(Same.rdK r.iH h3).sq,k.now r (Is.bl _)⟩
  ·cases e
 ·cases e) hg hm boot_any ha (by decide) (by decide) he az
noncomputable def reprF (ds:List D):Option D:=match ds with
 | [.bl b]=>some (.str (if b then "True" else "False"))
 | _=>none
end
theorem CompScope.of {cn sc:Scope}{N N':List Str}{m:Nat}
  (h:decide (sc.kind=.function/\(∀ y∈sc.names,y.2≠.cell)/\(∀ y∈sc.names,y.2=.local->sc.names.lookup y.1=some .local)/\(∀ y∈sc.names,y.2=.free->cn.names.lookup y.1=some .cell\/cn.names.lookup y.1=some .free)/\N'.Nodup/\N'.length=m+N.length ∧
   (∀ p∈(N'.drop m).zip N,((relab sc cn).names.lookup p.1=none)\/(p.1=p.2/\(relab sc cn).names.lookup p.1≠some .local)))=true):CompScope cn sc N N' m:=by
 obtain ⟨h1,h2,h3,h4,h5,h6,h7⟩:=of_decide_eq_true h
 exact ⟨h1,h2,h3,h4,h5,h6,h7⟩
theorem vx {P:Program}{w:World}{K:PySem.W.Frag}{mg:Str->Option Value}{base:Heap}{k:Nat}{f:Addr}{fd:FuncData}{ps:List Str}:FnOk P w K mg base CX0 k f fd ps (spD K λ_=>none):=by
 have no:∀ vs H Q E,¬ spD K (λ_=>none) vs H Q E:=λvs H Q E h=>by
  obtain ⟨_,_,_,_,_,_,_,h,_⟩:=h
  cases h
 exact ⟨λvs H Q E h=>absurd h (no vs H Q E),λA outer s H args us vs Q E _ _ _ _ h=>absurd h (no vs H Q E)⟩
theorem Gh {K:PySem.W.Frag}{H:Hp}{a:Addr}{ns:List Int}{g:List R->Option (R×List R)} (lO:RdK K H a (ns.map V.int))
  (hg:∃ rs,g [.val (.lst (ns.map D.int))]=some (.val (.bl true),rs)):spD K g [.ref a] H (λv _=>v=.bl true) λ_ _ _=>False:=by
 obtain ⟨rs,hg⟩:=hg
 have my:∀ ns:List Int,IsA K H (ns.map D.int) (ns.map V.int):=λns=>by
  induction ns with
  | nil=>exact IsA.nil
  | cons n ns ih=>exact IsA.cons (Is.int n) ih
 refine ⟨H,H,[.val (.lst (ns.map D.int))],.val (.bl true),rs,?_,rfl,hg,λv H' I' r g' hv=>tV (K:=K) (I:=I') hv⟩
 refine ⟨Same.refl _,Same.refl _,rfl,λi r e=>?_,λi j r r' v e e' m=>?_,λi ds e=>rfl⟩
 ·match i,e with
  | 0,e=>cases e;exact ⟨_,rfl,Is.lst lO (my ns)⟩
 ·match i,e with
  | 0,e=>cases e;cases m
noncomputable def hT (K:PySem.W.Frag) (H:Hp):Hp:=λb=>match tabIn K "letter_left" with
 | some (_,P)=>if b=P then some (.tbl "letter_left.<locals>.<lambda>") else H b
 | none=>H b
theorem ym {K:PySem.W.Frag}{H:Hp}{c P:Addr} (h:tabIn K "letter_left"=some (c,P)):hT K H P=some (.tbl "letter_left.<locals>.<lambda>"):=by
 unfold hT
 rw [h]
 exact if_pos rfl
theorem xB {K:PySem.W.Frag}{H:Hp}{b:Addr}:hT K H b=H b\/∃ c,tabIn K "letter_left"=some (c,b):=by
 unfold hT
 cases e:tabIn K "letter_left" with
 | none=>exact .inl rfl
 | some q =>
  obtain ⟨c,P⟩:=q
  dsimp only
  by_cases h:b=P
  ·subst h;exact .inr ⟨c,rfl⟩
  ·exact .inl (if_neg h)
theorem FO {P:Program}{w:World}{K:PySem.W.Frag}{mg mb:Str->Option Value}{CX:CXT}{k:Nat}{fa a:Addr}{fd:FuncData}{x:Str}{sp:Sp}{ax:Shared}{vs:List Value}{ns:List Int}
  (KX:K.In ax.heap) (fM:ax.heap.Ns mainGlobals mg) (hb:ax.heap.Ns builtinsNs mb) (o9:∀ x:Str,x ≠ "__name__"->mb x=bootBuiltins x) (fx:ax.heap.NoLimit) (hg:ax.gens=#[])
  (pc:∃ bm ob,mg "__builtins__"=some (.ref bm)/\bm≠builtinsNs/\ax.heap.get? bm=some ob/\ob.cls=.type "module"/\ob.dict=some builtinsNs/\ob.data=.plain)
  (dj:∀ c P,tabIn K "letter_left"=some (c,P)->PySem.W.CodeHd ax.heap c P/\ax.heap.get? P=some (PySem.W.tabObj #[])) (gI:noTabs K=true)
  (ha:ax.heap.get? a=some { cls:=.type "list", data:=.seq vs.toArray }) (hi:IntsAre vs ns) (hl:ns.length<=sizeLine) (hr:Room k callerA)
  (F:∀ base:Heap,K.In base->base.Ns mainGlobals mg->FnOk P w K mg base CX k fa fd [x] sp) (eW:∀ (s:Shared) (u:Value),BindsTo s fd ⟨[u],[]⟩ [(x,u)])
  (db:∀ H:Hp,RdK K H a (ns.map V.int)->sp [.ref a] H (λv _=>v=.bl true) λ_ _ _=>False)
  (ki:∀ H e s',CX [] H ax (λ_ _ _=>False) e s'->False) :
  codeAny (model P w) callerA (.call (.ref fa) ⟨[.ref a],[]⟩) (λr s'=>r=.ok (.ret (.bool true))/\OldK ax.heap s'.heap/\s'.os=ax.os/\AllBare s'.gens) ax:=by
 have rv:=DQ hi
 have mz:=hi.length
 have pe:∀ {c b:Addr}{o:Obj},tabIn K "letter_left"=some (c,b)->K.lookup b=some o->False:=λ{c b o} e lk=>by
  have e1:=KX b o lk
  rw [(dj c b e).2] at e1
  cases e1
  have:=all_eq_true.mp gI (b,_) (PySem.W.mem_of_lookupK lk)
  exact absurd (show false=true from this) Bool.false_ne_true
 -- from an abstract heap in which nothing but the script and the table may be cM
 have jv:∀ H0:Hp,Only H0->RdK K (hT K H0) a (ns.map V.int)->HOk P w (hT K H0) ax.heap->(∀ b,H0 b≠none->b=a)->(H0 a≠none->K.lookup a=none) →
   codeAny (model P w) callerA (.call (.ref fa) ⟨[.ref a],[]⟩) (λr s'=>r=.ok (.ret (.bool true))/\OldK ax.heap s'.heap/\s'.os=ax.os/\AllBare s'.gens) ax:=by
  intro H0 hO hS hok hA hK
  obtain ⟨H,eH⟩:∃ H,H=hT K H0:=⟨_,rfl⟩
  have kj:∀ b,H b=H0 b\/∃ c,tabIn K "letter_left"=some (c,b):=λb=>by rw [eH];exact xB
  rw [← eH] at hS hok
  have cf:∀ {b:Addr}{o:Obj},ax.heap.get? b=some o->H b=none->(hidT ax.heap H).get? b=some o:=λe n=>LO e n
  have free:∀ {b:Addr}{o:Obj},ax.heap.get? b=some o->o.cls≠.type "list"\/(∀ xs n,o.data≠.seq xs n)->o.cls≠.none\/(∀ vs,o.data≠.fields vs)->H b=none:=λ{b o} e n1 n2=>by
   rcases kj b with q | ⟨c,q⟩
   ·rw [q]
    cases z:H0 b with
    | none=>rfl
    | some u =>
     have e':b=a:=hA b (by rw [z];simp)
     subst e'
     rw [ha] at e;cases e
     rcases n1 with n1 | n1
     ·exact absurd rfl n1
     ·exact absurd rfl (n1 _ _)
   ·rw [(dj c b q).2] at e;cases e
    rcases n2 with n2 | n2
    ·exact absurd rfl n2
    ·exact absurd rfl (n2 _)
  have iK:∀ {b:Addr}{m:Str->Option Value},ax.heap.Ns b m->(hidT ax.heap H).Ns b m:=λ{b m} ⟨o,es,ep,e,d,r⟩=>⟨o,es,ep,cf e (free e (.inr λxs n z=>by rw [d] at z;cases z) (.inr λvs z=>by rw [d] at z;cases z)),d,r⟩
  have mB:K.In (hidT ax.heap H):=λb o e=>cf (KX b o e) (by
   rcases kj b with q | ⟨c,q⟩
   ·rw [q]
    cases z:H0 b with
    | none=>rfl
    | some u =>
     have e':b=a:=hA b (by rw [z];simp)
     subst e'
     rw [hK (by rw [z];simp)] at e;cases e
   ·exact (pe q e).elim)
  have hM:Mod K mg (hidT ax.heap H):=⟨mB,iK fM,⟨mb,iK hb,o9⟩,let ⟨mc,h1,h2⟩:=fx;⟨mc,iK h1,h2⟩,by
   obtain ⟨bm,ob,b1,b2,b3,b4,b5,b6⟩:=pc
   exact ⟨bm,ob,b1,b2,cf b3 (free b3 (.inl (by rw [b4];decide)) (.inl (by rw [b4];decide))),b4,b5,b6⟩,λc P q=>by
   obtain ⟨o,vs,jw,tf,gJ,tg,inF,jy,tt,e1,e2,e3,r⟩:=(dj c P q).1
   exact ⟨o,vs,jw,tf,gJ,tg,inF,jy,tt,cf e1 (free e1 (.inl (by rw [e2];decide)) (.inl (by rw [e2];decide))),e2,e3,r⟩⟩
  have e0:Env0 P w K mg (hidT ax.heap H) callerA [] ax H:=⟨rfl,hM,λb o e=>Fh e,Nat.le_of_eq (Mn _ _),trivial,λb hb=>absurd (show b∈([]:List Addr) from hb) (by simp),hok,.of_eq hg,λc P q=>by rw [eH];exact ym q⟩
  refine codeAny_mono ((F _ mB (iK fM)).run callerA [] ax H ⟨[.ref a],[]⟩ [.ref a] [.ref a] _ _ hr e0 (eW ax (.ref a)) (.cons rfl .nil) (db H hS)) λr s' h=>?_
  cases r with
  | error e=>exact (ki H e s' h).elim
  | ok fl =>
   cases fl with
   | next=>exact elim h
   | brk=>exact elim h
   | cont=>exact elim h
   | ret u =>
    obtain ⟨v,H',os,bare,un,jz,r',q⟩:=h
    have q':v=.bl true:=q
    subst q'
    obtain rfl:u=Value.bool true:=r'
    refine ⟨rfl,⟨λb o e=>?_,λb o e=>un.there b o e (by simp)⟩,os,bare⟩
    rcases kj b with q | ⟨c,q⟩
    ·cases z:H0 b with
     | none=>exact .inl (un.keep b o e (by rw [q];exact z) (by intro z;exact absurd (show b∈([]:List Addr) from z) (by simp)) (by simp))
     | some u =>
      rcases hO b with z' | ⟨ob,xs,z'⟩
      ·rw [z] at z';cases z'
      ·rw [← q] at z'
       have z2:=un.frzs b ob _ z'
       obtain ⟨e1,_⟩:=hok b _ z'
       obtain ⟨e2,_⟩:=jz b _ z2
       rw [e] at e1;cases e1
       exact .inl e2
    ·have z2:=un.tbls b _ (e0.tb c b q)
     obtain ⟨ps,e2,_⟩:=jz b _ z2
     obtain ⟨⟨oc,gK,jw,tf,gJ,tg,inF,jy,tt,c1,c2,c3,c4,_⟩,e3⟩:=dj c b q
     rw [e3] at e
     cases e
     exact .inr (.inl ⟨⟨c,oc,gK,c1,c2,c3,c4⟩,rfl,#[],ps,rfl,by rw [Array.empty_append];exact e2⟩)
 have gL:∀ {H0:Hp}{c b:Addr},tabIn K "letter_left"=some (c,b)->ObjOk P w (hT K H0) ax.heap b (.tbl "letter_left.<locals>.<lambda>"):=λ{H0 c b} q=>⟨#[],(dj c b q).2,trivial,λpos cv z=>by cases z⟩
 have pf:∀ {c:Addr},tabIn K "letter_left"≠some (c,a):=λ{c} q=>by
  have:=(dj c a q).2
  rw [ha] at this;cases this
 cases hk:K.lookup a with
 | some o =>
  -- the script is one of the module's own objects
  have e:=KX a o hk
  rw [ha] at e
  cases e
  refine jv (λ_=>none) (λ_=>.inl rfl) (.inr ⟨vs,_,hk,rv,by rw [mz];exact hl⟩) (λb u z=>?_) (λb z=>absurd rfl z) λz=>absurd rfl z
  rcases xB (K:=K) (H:=λ_=>none) (b:=b) with q | ⟨c,q⟩
  ·rw [q] at z;cases z
  ·rw [ym q] at z;cases z;exact gL q
 | none =>
  have here:hT K (λb=>if b=a then some (.frz { cls:=.type "list", data:=.seq vs.toArray } (.lst (ns.map V.int))) else none) a=some (.frz { cls:=.type "list", data:=.seq vs.toArray } (.lst (ns.map V.int))):=by
   rcases xB (K:=K) (H:=λb=>if b=a then some (.frz { cls:=.type "list", data:=.seq vs.toArray } (.lst (ns.map V.int))) else none) (b:=a) with q | ⟨c,q⟩
   ·rw [q];exact if_pos rfl
   ·exact absurd q pf
  refine jv (λb=>if b=a then some (.frz { cls:=.type "list", data:=.seq vs.toArray } (.lst (ns.map V.int))) else none) (λb=>?_) (.inl (.inr ⟨_,here⟩)) (λb u z=>?_) (λb z=>?_) λ_=>hk
  ·by_cases hb:b=a
   ·exact .inr ⟨_,_,if_pos hb⟩
   ·exact .inl (if_neg hb)
  ·rcases xB (K:=K) (H:=λb=>if b=a then some (.frz { cls:=.type "list", data:=.seq vs.toArray } (.lst (ns.map V.int))) else none) (b:=b) with q | ⟨c,q⟩
   ·rw [q] at z
    by_cases hb:b=a
    ·have z':=(if_pos hb).symm.trans z
     cases z'
     subst hb
     exact ⟨ha,by rw [length_map];exact hl,vs,_,rv,ha⟩
    ·have z':=(if_neg hb).symm.trans z
     cases z'
   ·rw [ym q] at z;cases z;exact gL q
  ·by_cases hb:b=a
   ·exact hb
   ·exact absurd (if_neg hb) z
theorem F8 {l:PySem.W.OpenLaw}{n k:Nat}{q:Program}{cj:List Str}{XP:(Str->Option Value)->Heap->Prop}{YP:World->Heap->Prop}{d:DefRec}{K:Params->PySem.W.Frag}{CX:World->CXT}{sp:World->Sp}{x:Str}
  (hn:l.most=some n) (ey:n<=sizeLine) (gj:d.params.defaults=[]) (hr:Room k callerA)
  (ca:∃ d',(recsOf q).find? (λe=>e.name == ("letter_left":Str))=some d') (gI:∀ p,noTabs (K p)=true)
  (hY:∀ (w:World) (h:Heap),YP w h->(K w.params).In h)
  (F:∀ (w:World) (mg:Str->Option Value) (fa:Addr) (h:Heap),(K w.params).In h->h.Ns mainGlobals mg->mg d.name=some (.ref fa) →
   ∃ fd:FuncData,(∀ (s:Shared) (u:Value),BindsTo s fd ⟨[u],[]⟩ [(x,u)]) ∧
    ∀ base:Heap,(K w.params).In base->base.Ns mainGlobals mg->FnOk l.prog w (K w.params) mg base (CX w) k fa fd [x] (sp w))
  (db:∀ (w:World) (H:Hp) (a:Addr) (ns:List Int),ns.length<=n->RdK (K w.params) H a (ns.map V.int)->sp w [.ref a] H (λv _=>v=.bl true) λ_ _ _=>False)
  (ki:∀ (w:World) (H:Hp) (s:Shared) (e:Value) (s':Shared),CX w [] H s (λ_ _ _=>False) e s'->False) :
  PySem.W.WalkO q cj XP YP l.row.toRowW d [] (λf vs=>PySem.call f vs):=by
 refine Att.Hr hn gj λw s₀ ax mg mb fa o pm cd bM a vs ns G sD ho hd aX gm gr eO aJ hg=>?_
 have KX:=hY w _ sD
 obtain ⟨fd,hb,hF⟩:=F w mg fa _ KX G.T.g gm
 obtain ⟨d',bK⟩:=ca
 exact FO KX G.T.g G.T.b G.T.builtins G.T.nolimit hg G.T.bmain (λc P q=>PySem.W.tab_of G.T KX bK q) (gI _) gr eO (le_trans aJ ey) hr hF hb (λH hS=>db w H a ns aJ hS) λH e s'=>ki w H ax e s'
noncomputable def un1 {α:Type} (F:D->Option α) (g:M D):M α:=bnd g λd=>lft (F d)
inductive Ki where
 | iT | sT | bT | tT | lT
noncomputable def isiB:Ki->D->Bool
 | .iT,.int _=>true
 | .iT,.bl _=>true
 | .sT,.str _=>true
 | .bT,.bl _=>true
 | .tT,.tup _=>true
 | .lT,.lst _=>true
 | _,_=>false
def isiF (k:Ki) (d:D):Option D:=some (.bl (isiB k d))
section
variable {X:Cx}{B:BB}{e:Expr}{ga:M D}{pos:Pos}
noncomputable def negI (d:D):Option D:=match d with
 | .int i=>some (.int (-i))
 | _=>none
theorem LW:∀ U H Q,tD X.K B (un1 negI ga) U H Q->tUn (rU λi=>.int (-i)) (tD X.K B ga) U H Q:=λU H Q q=>by
 obtain ⟨G,I,Y,d,af,r,e1,k⟩:=q
 obtain ⟨d1,ab,e2,e3⟩:=sN e1
 obtain ⟨e4,rfl⟩:=tx e3
 unfold negI at e4
 split at e4
 ·cases e4
  exact ⟨G,I,Y,_,_,r,e2,λv H1 I1 r1 g1 h1=>⟨_,sV h1,k _ _ _ r1 g1 (Is.int _)⟩⟩
 ·cases e4
theorem xK (ha:ED X B e ga):ED X B (.UnaryOp .USub e pos) (un1 negI ga):=PE.imp (GM Me ha) LW
end
end DL
namespace PySem.SeqAt
def RcLtAt (A:Around) (s:Shared) (y x:Value) (b:Bool):Prop :=
 ∀ (prog:Program) (w:World) (E:Value->Shared->Prop) (Q:Value->Shared->Prop),Q (.bool b) s->wpAny (model prog w) A (richCompare .Lt y x) Q E s
noncomputable def ltFrom (e lt:Nat->Bool) (d:Bool):List Nat->Bool
 | []=>d
 | i::r=>if e i then ltFrom e lt d r else lt i
theorem JM (u v:Addr) (us vs:Array Value) (p q:Nat) (du dv:Option Addr) (ku kv:Array (Option Value)) (e lt:Nat->Bool) :
  Meets (Builtin.«tuple.__lt__» ⟨[.ref u,.ref v],[]⟩) (λA aL s=>(s.heap.get? u=some ⟨.type "tuple", du,.seq us p,ku⟩/\s.heap.get? v=some ⟨.type "tuple", dv,.seq vs q,kv⟩) ∧
    (∀ j (h1:j < us.size) (h2:j < vs.size),EqAt A.in1 s us[j] vs[j] (e j)/\(e j=false->RcLtAt A.in1 s us[j] vs[j] (lt j)))/\aL (.ok (.ret (.bool (ltFrom e lt (decide (us.size < vs.size)) (range (min us.size vs.size)))))) s) :=
 .of_wp λprog w A aL s given=>by
  obtain ⟨hp,gn,dw,tk,os⟩:=s
  obtain ⟨⟨gu,gv⟩,gM,mC⟩:=given
  obtain ⟨gN,hs⟩:∃ gN:Nat->Prop,gN=λi=>aL (.ok (.ret (.bool (ltFrom e lt (decide (us.size < vs.size)) ((range (min us.size vs.size)).drop i))))) ⟨hp,gn,dw,tk,os⟩:=⟨_,rfl⟩
  have jt:=AutoSeq1.sub_tuple_tuple
  have len:(us.toList.zip vs.toList).length=min us.size vs.size:=by rw [length_zip];rfl
  wp_walk using AutoSeq1.wpAny_loadPart' gu,AutoSeq1.wpAny_loadPart' gv,wpAny_forIn_list _ (λleft eS now=>eS.1=none/\now=⟨hp,gn,dw,tk,os⟩/\∃ i,left=(us.toList.zip vs.toList).drop i/\gN i) _
  case turn =>
   rintro ⟨y,x⟩ left eS now ⟨aU,rfl,i,bj,say⟩
   have here:i < min us.size vs.size:=by
    rw [← len]
    exact Nat.lt_of_not_le λno=>by rw [List.drop_eq_nil_of_le no] at bj;exact List.cons_ne_nil _ _ bj
   have k1:i < us.size:=by omega
   have k2:i < vs.size:=by omega
   have cut:=drop_eq_getElem_cons (l:=us.toList.zip vs.toList) (i:=i) (len▸here)
   rw [← bj,List.getElem_zip] at cut
   obtain ⟨yx,mD⟩:=List.cons.inj cut
   obtain ⟨rfl,rfl⟩:=Prod.mk.inj yx
   rw [hs] at say
   have jA:=drop_eq_getElem_cons (l:=range (min us.size vs.size)) (i:=i) (by simpa using here)
   rw [getElem_range] at jA
   rw [jA,ltFrom] at say
   have two:=gM i k1 k2
   refine wpAny_bind (two.1 prog w _ _ ?_)
   cases like:e i with
   | true =>
    rw [like,if_pos rfl] at say
    wp_walk
    exact ⟨rfl,rfl,i+1,mD,by rw [hs];exact say⟩
   | false =>
    rw [like,if_neg Bool.false_ne_true] at say
    refine wpAny_bind (wpAny_rule (wpAny_bind (two.2 like prog w _ _ ?_)))
    wp_walk
    exact ⟨_,rfl,say⟩
  case fin =>
   rintro ⟨eS,_⟩ now ⟨aU,rfl,i,bj,say⟩
   cases aU
   have fy:min us.size vs.size<=i:=by
    rw [← len]
    exact List.drop_eq_nil_iff.mp bj.symm
   rw [hs] at say
   rw [List.drop_eq_nil_of_le (by simpa using fy),ltFrom] at say
   wp_walk
   exact ⟨_,rfl,by simpa [Builtin.Tuple.tupleCompareSizes] using say⟩
  case h=>exact ⟨rfl,rfl,0,rfl,by rw [hs];exact mC⟩
theorem RcLtAt.tuples {A:Around}{s:Shared}{u v:Addr}{us vs:Array Value}{e lt:Nat->Bool} (hu:s.heap.IsTuple u us) (hv:s.heap.IsTuple v vs) (room:A.units < cLine)
  (gM:∀ j (h1:j < us.size) (h2:j < vs.size),EqAt A.in1 s us[j] vs[j] (e j)/\(e j=false->RcLtAt A.in1 s us[j] vs[j] (lt j))):RcLtAt A s (.ref u) (.ref v) (ltFrom e lt (decide (us.size < vs.size)) (range (min us.size vs.size))):=by
 obtain ⟨⟨_,du,_,ku⟩,gu,rfl,p,rfl⟩:=hu
 obtain ⟨⟨_,dv,_,kv⟩,gv,rfl,q,rfl⟩:=hv
 exact λprog w E Q h=>richCompare_meets_room (op:=.Lt) ⟨_,gu,rfl⟩ ⟨_,gv,rfl⟩ F.slot_tuple_lt F.entry_tuple_lt (F.args_tuple_lt_2 _ _) (JM u v us vs p q du dv ku kv e lt) ⟨⟨gu,gv⟩,gM,Value.noConfusion,h⟩ room
theorem RcLtAt.int_int {A:Around}{s:Shared} (a:Int) (t:Tok) (b:Int) (u:Tok):RcLtAt A s (.int a t) (.int b u) (decide (a < b)):=λprog w E Q h=>PyProof.Rows.lt_int h
end PySem.SeqAt
namespace DL
open PySem PySem.Spec PyProof.Rows L2
section
variable {X:Cx}{B:BB}{a b c e:Expr}{es:List Expr}{pos:Pos}
noncomputable def rngV (n:Nat):List V:=(range n).map λ(k:Nat)=>V.int (0+(k:Int))
theorem xx:∀ {xs:List V}{us:List Value},xs.length=us.length->(∀ (i:Nat) x u,xs[i]?=some x->us[i]?=some u->RelV x u)->Vals xs us
 | [],[],_,_=>.nil
 | [],_::_,h,_=>by cases h
 | _::_,[],h,_=>by cases h
 | x::xs,u::us,h,k=>.cons (k 0 x u rfl rfl) (xx (Nat.succ.inj h) λi y v e f=>k (i+1) y v e f)
theorem Li {ta:TA}{p p2 cB:Pos} (hc:X.calm=true) (hl:Gl X "list") (km:X.mg "list"=none) (hg:Gl X "range") (hm:X.mg "range"=none) (ha:PA X [a] ta)
  (hs:starEach [a] X.env=[(false,eval a X.env)]:=by rfl) (b9:starEach [.Call (.Name "range" p2) [a] [] cB] X.env=[(false,eval (.Call (.Name "range" p2) [a] [] cB) X.env)]:=by rfl) :
  PE X (.Call (.Name "list" p) [.Call (.Name "range" p2) [a] [] cB] [] pos) (λU H Q=>ta U H λvs H1=>∃ j:Int,vs=[.int j]/\-1000000<=j/\j<=1000000/\∀ l,H1 l=none->Q (.ref l) (upd H1 l (.lst (rngV j.toNat)))):=by
 intro aa s U H Q I h
 refine Call_ (uy I hl km boot_list (PyProof.Rows.callWith_type1 ?_ b9 rfl))
 rw [b9]
 refine Calls.spliced_cons (Call_ (uy I hg hm boot_range (PyProof.Rows.callWith_type1 (thn (ha cB aa s U H _ I h) λus s1 ⟨vs,H1,I1,r1,q1⟩=>?_) hs rfl)))
 obtain ⟨j,rfl,q1,q2,q⟩:=q1
 obtain ⟨u,rfl,t,rfl⟩:=vals1 r1
 refine call_range_1 (Calls.spliced_nil ?_)
 have size:rangeSize 0 j 1=j.toNat:=by rw [rangeSize_one];split<;>omega
 refine call_list_range (I1.ok.hd hc) (IsRange.new ..) (small_one (by decide) (by decide) (by omega) (by omega)) size (by omega) λg tk ae c' keep bj ag=>?_
 refine ⟨.ref _,_,I1.laid (t':=tk) (λb o e=>keep b o (get?_push_of_some _ e)) ?_ (o:=.lst (rngV j.toNat)) ⟨?_,ae.toList,c',?_,bj⟩,rfl,q _ ?_⟩
 ·exact le_of_lt (by show _ < (Heap.push _ _).objs.size;rw [size_push];exact lt_succ_self _)
 ·show (rngV j.toNat).length<=sizeLine
  rw [rngV,length_map,length_range,sizeLine_eq];omega
 ·refine xx (by rw [rngV,length_map,length_range,length_toList,ag.1]) λi x u e f=>?_
  rw [Array.getElem?_toList] at f
  obtain ⟨t',rfl⟩:=ag.2 i u f
  obtain ⟨k,e1,rfl⟩:=getMap e
  obtain ⟨k1,k2⟩:=List.getElem?_eq_some_iff.mp e1
  rw [getElem_range] at k2
  subst k2
  exact ⟨t',by simp⟩
 ·refine I1.hok.fresh (le_of_lt ?_)
  show _ < (Heap.push _ _).objs.size
  rw [size_push];exact lt_succ_self _
theorem EN {K:PySem.W.Frag}{I:Hp} (n:Nat):IsA K I (rngD 0 n) (rngV n):=by
 unfold rngD rngV
 induction range n with
 | nil=>exact IsA.nil
 | cons k ks ih=>exact IsA.cons (Is.int _) ih
theorem G7 {p p2 cB:Pos}{t:M (List D)} (hc:X.calm=true) (hl:Gl X "list") (km:X.mg "list"=none) (hg:Gl X "range") (hm:X.mg "range"=none) (ha:AD X B [a] t)
  (hs:starEach [a] X.env=[(false,eval a X.env)]:=by rfl) (b9:starEach [.Call (.Name "range" p2) [a] [] cB] X.env=[(false,eval (.Call (.Name "range" p2) [a] [] cB) X.env)]:=by rfl) :
  EO X B (.Call (.Name "list" p) [.Call (.Name "range" p2) [a] [] cB] [] pos) (fn1 rngI1 t):=PE.imp (Li hc hl km hg hm ha hs b9) λU H Q q=>by
 obtain ⟨G,I,Y,ds,af,r,e1,k⟩:=q
 obtain ⟨d,ab,e2,e3⟩:=sN e1
 obtain ⟨e4,rfl⟩:=tx e3
 obtain ⟨j,rfl,⟨h1,h2⟩,rfl⟩:=A4 e4
 refine ⟨G,I,Y,_,_,r,e2,λvs H1 I1 r1 g1 hd=>?_⟩
 obtain ⟨x,rfl,hx⟩:=hd.one
 exact ⟨j,by rw [sV hx],h1,h2,λl hl=>(k.after g1).new r1 hl (EN _)⟩
end
section
variable {prog:Program}{w:World}{A:Around}{E:Value->Shared->Prop}{s:Shared}
def SlotAt (P:Nat->Value->Prop) (bt:Nat->Nat->Bool) (j:Nat) (cells:Array Value):Prop:=match j with
 | 0=>cells=#[]
 | j+1=>∃ b,cells=#[b,b]/\P (argBest bt j) b
theorem J4 {it S:Addr}{fp wr:List Addr}{n:Nat}{P:Nat->Value->Prop}{St:Nat->Heap->Prop}{bt:Nat->Nat->Bool}{Fit:Shared->Prop}{aL:Result->Shared->Prop} (W:Walks prog w A.in1 it fp wr n P St) (cC:S∉fp)
  (less:∀ s,Fit s->∀ i j vi vj,P i vi->P j vj->PySem.SeqAt.RcLtAt A.in1 s vi vj (bt i j)) (stay:∀ s h' tk,Fit s->(∀ b o,b∉wr->b≠S->s.heap.get? b=some o->h'.get? b=some o)->Fit { s with heap:=h',toks:=tk })
  (gO:0 < n) (fin:∀ v s,P (argBest bt (n - 1)) v->Fit s->aL (.ok (.ret v)) s):∀ (left:Nat) (s:Shared) (cells:Array Value) (c j:Nat),j+left=n->St j s.heap->Fit s->SlotAt P bt j cells->s.heap.get? S=some { cls:=.type "list", dict:=none,data:=.seq cells c,slots:=#[] } →
   codeAny (model prog w) A (.builtin "min.loop" ⟨[.ref it,.none,.ref S],[]⟩) aL s:=by
 have apart:S∉wr:=λh=>cC (W.sub _ h)
 have bC:∀ {g:Heap}{f:Obj->Obj}{b:Addr}{o:Obj},b≠S->g.get? b=some o->(g.update S f).get? b=some o:=λne e=>(get?_update_other _ _ (Ne.symm ne)).trans e
 have aI:(toString "min"++toString ".loop":String) = "min.loop":=by decide
 intro left
 induction left with
 | zero =>
  intro s cells c j len st c5 a9 slot
  obtain ⟨m,rfl⟩:∃ m,j=m+1:=⟨j - 1,by omega⟩
  obtain ⟨b,rfl,fz⟩:=a9
  refine codeAny_builtin F.entry_min_loop ?_
  rw [under_plainId F.plain_min_loop _]
  refine wpAny_bind (m:=seqItems? (.ref S)) (wpAny_seqItems slot rfl (wpAny_bind (m:=tryCatch (pyNext (.ref it)) _) (wpAny_tryCatch (W.done s _ _ (len▸st) λg tk kk=>?_))))
  refine wpAny_bind (m:=updateSeq S λ_=>#[]) (wpAny_updateSeq (kk S _ apart slot) rfl (wpAny_bind (wpAny_letGo (wpAny_pure (fin b _ (by rw [← len];exact fz) (stay s _ tk c5 λx o n1 n2 e=>bC n2 (kk x o n1 e)))))))
 | succ left ih =>
  intro s cells c j len st c5 a9 slot
  refine codeAny_builtin F.entry_min_loop ?_
  rw [under_plainId F.plain_min_loop _]
  refine wpAny_bind (m:=seqItems? (.ref S)) (wpAny_seqItems slot rfl (wpAny_bind (m:=tryCatch (pyNext (.ref it)) _) (wpAny_tryCatch (W.item j s _ _ (by omega) st λv g tk dG cG kk=>?_))))
  have aG:=kk S _ apart slot
  have cg:=stay s g tk c5 λx o n1 _ e=>kk x o n1 e
  have next:∀ (f:Obj->Obj) (aA:Array Value) (c':Nat),(g.update S f).get? S=some { cls:=.type "list", dict:=none,data:=.seq aA c',slots:=#[] }->SlotAt P bt (j+1) aA →
    codeAny (model prog w) A (.builtin "min.loop" ⟨[.ref it,.none,.ref S],[]⟩) aL { s with heap:=g.update S f,toks:=tk }:=λf aA c' here is =>
   ih _ aA c' (j+1) (by omega) (W.frame _ _ _ cG λb hb o e=>bC (λz=>cC (z▸hb)) e) (stay { s with heap:=g,toks:=tk } _ tk cg λx o _ n2 e=>bC n2 e) is here
  cases j with
  | zero =>
   cases a9
   refine wpAny_bind (m:=updateSeq S λ_=>#[v,v]) (wpAny_updateSeq aG rfl ?_)
   rw [aI]
   exact wpAny_pure ⟨plainId_quiet F.plain_min_loop _,next _ _ _ (get?_update_self _ aG rfl) ⟨v,rfl,dG⟩⟩
  | succ m =>
   obtain ⟨b,rfl,fz⟩:=a9
   refine wpAny_bind (m:=tryCatch (holding [v,v] (richCompare .Lt v b >>= _)) _) (wpAny_tryCatch (wpAny_holding (wpAny_bind (less _ cg (m+1) (argBest bt m) v b dG fz prog w _ _ (wpAny_bind (wpAny_holding (wpAny_truthy_bool (wpAny_bind (wpAny_letGo (wpAny_pure ?_))))))))))
   cases hb:bt (m+1) (argBest bt m) with
   | true =>
    rw [if_pos rfl]
    refine wpAny_bind (wpAny_updateSeq aG rfl (wpAny_bind (wpAny_letGo ?_)))
    rw [aI]
    exact wpAny_pure ⟨plainId_quiet F.plain_min_loop _,next _ _ _ (get?_update_self _ aG rfl) ⟨v,rfl,by rw [argBest,hb];exact dG⟩⟩
   | false =>
    rw [if_neg Bool.false_ne_true]
    refine wpAny_bind (wpAny_letGo ?_)
    rw [aI]
    exact wpAny_pure ⟨plainId_quiet F.plain_min_loop _,ih _ _ c (m+2) (by omega) cG cg ⟨b,rfl,by rw [argBest,hb];exact fz⟩ aG⟩
theorem A2 (bt:Nat->Nat->Bool):∀ k,argBest bt k<=k
 | 0=>le_refl _
 | k+1=>by
  rw [argBest]
  split
  ·exact le_refl _
  ·exact Nat.le_succ_of_le (A2 bt k)
theorem EQ {p:Addr}{ag:Array Value}{bt:Nat->Nat->Bool}{Q:Value->Shared->Prop} (hh:A.handled=none) (L:s.heap.IsList p ag) (gO:0 < ag.size)
  (less:∀ h' tk,(∀ b o,s.heap.get? b=some o->h'.get? b=some o)->∀ i j vi vj,ag[i]?=some vi->ag[j]?=some vj->PySem.SeqAt.RcLtAt A.in1 { s with heap:=h',toks:=tk } vi vj (bt i j))
  (fin:∀ v h' tk,ag[argBest bt (ag.size - 1)]?=some v->(∀ b o,s.heap.get? b=some o->h'.get? b=some o)->Q v { s with heap:=h',toks:=tk }):wpAny (model prog w) A (call (.builtin "min") [.ref p]) Q E s:=by
 have low:p < s.heap.objs.size:=by obtain ⟨_,e,_⟩:=L;exact lt_size e
 refine call_function_tree F.kind_min F.plain_min F.entry_min (F.args_min1 _) ?_
 refine wpAny_bind (wpAny_of_eq (a:=[none,none]) rfl (wpAny_bind (wpAny_pure (wpAny_bind (wpAny_pyIter_list L (wpAny_bind (wpAny_newObj_type ?_)))))))
 have aI:(toString "min"++toString ".loop":String) = "min.loop":=by decide
 rw [aI]
 have W:=Walks.list (prog:=prog) (w:=w) (A:=A.in1) hh s.heap.objs.size p (ne_of_lt low) ag
 have aZ:∀ o:Obj,(s.heap.push o).objs.size=s.heap.objs.size+1:=λo=>size_push ..
 refine wpAny_pure ⟨plainId_quiet F.plain_min_loop _,J4 (Fit:=λs'=>∃ h' tk,s'={ s with heap:=h',toks:=tk }/\∀ b o,s.heap.get? b=some o->h'.get? b=some o) (bt:=bt) W ?_ ?_ ?_ gO ?_ ag.size _ #[] 0 0 (zero_add _) ⟨⟨_,get?_push_of_some _ (get?_push_size _ rfl),rfl,rfl⟩,(L.push _).push _⟩ ⟨_,_,rfl,λb o e=>get?_push_of_some _ (get?_push_of_some _ e)⟩ rfl (get?_push_size _ rfl)⟩
 ·rw [aZ]
  intro z
  rw [mem_cons,mem_singleton] at z
  rcases z with z | z
  ·exact absurd z (succ_ne_self _)
  ·exact absurd z (ne_of_gt (lt_succ_of_lt low))
 ·rintro _ ⟨g,tk,rfl,keep⟩ i j vi vj hi hj
  exact less g tk keep i j vi vj hi hj
 ·rintro _ h' tk ⟨g,cH,rfl,keep⟩ k
  refine ⟨h',tk,rfl,λb o e=>k b o (λz=>?_) (λz=>?_) (keep b o e)⟩
  ·rw [mem_singleton] at z
   exact ne_of_lt (lt_size e) z
  ·rw [aZ] at z
   have:=lt_size e
   rw [z] at this
   exact absurd this (not_lt.mpr (le_succ _))
 ·rintro v _ hv ⟨g,tk,rfl,keep⟩
  exact fin v g tk hv keep
end
section
variable {X:Cx}{B:BB}{a b c e:Expr}{es:List Expr}{pos:Pos}{kr:Nat}
def prD (p:Int×Int):D:=.tup [.int p.1,.int p.2]
noncomputable def ltP (p q:Int×Int):Bool:=if p.1 == q.1 then decide (p.2 < q.2) else decide (p.1 < q.1)
noncomputable def prsD:List D->Option (List (Int×Int))
 | []=>some []
 | .tup [.int a,.int b]::ds=>match prsD ds with
  | some ps=>some ((a,b)::ps)
  | none=>none
 | _=>none
theorem IB:∀ (ds:List D) (ps:List (Int×Int)),prsD ds=some ps->ds=ps.map prD:=by
 intro ds
 fun_induction prsD ds with
 | case1=>intro ps h;cases h;rfl
 | case2 a b ds qs e ih=>intro ps h;cases h;rw [ih qs e];rfl
 | case3 a b ds e ih=>intro ps h;cases h
 | case4 ds=>intro ps h;cases h
noncomputable def btP (ps:List (Int×Int)) (i j:Nat):Bool:=ltP (ps.getD i (0,0)) (ps.getD j (0,0))
noncomputable def minP (ps:List (Int×Int)):Int×Int:=ps.getD (argBest (btP ps) (ps.length - 1)) (0,0)
open PySem.SeqAt in
theorem Ko {A:Around}{s:Shared}{u v:Addr}{p q:Int×Int}{t1 t2 t3 t4:Tok} (room:A.units < cLine) (hu:s.heap.IsTuple u #[.int p.1 t1,.int p.2 t2]) (hv:s.heap.IsTuple v #[.int q.1 t3,.int q.2 t4]):RcLtAt A s (.ref u) (.ref v) (ltP p q):=by
 have:=RcLtAt.tuples (e:=λk=>if k=0 then p.1 == q.1 else p.2 == q.2) (lt:=λk=>if k=0 then decide (p.1 < q.1) else decide (p.2 < q.2)) hu hv room (λj h1 h2=>?_)
 ·have e:ltFrom (λk=>if k=0 then p.1 == q.1 else p.2 == q.2) (λk=>if k=0 then decide (p.1 < q.1) else decide (p.2 < q.2)) (decide (2 < 2)) [0,1]=ltP p q:=by
   simp only [ltFrom,ltP]
   by_cases z:p.1=q.1
   ·by_cases z2:p.2=q.2<;>simp [z,z2]
   ·simp [z]
  rw [← e]
  exact this
 ·match j,h1,h2 with
  | 0,_,_=>exact ⟨EqAt.int_int _ _ _ _,λ_=>RcLtAt.int_int _ _ _ _⟩
  | 1,_,_=>exact ⟨EqAt.int_int _ _ _ _,λ_=>RcLtAt.int_int _ _ _ _⟩
  | k+2,h,_=>exact absurd h (by simp)
theorem G6 (hc:X.calm=true) (hu:X.A.units+100 < cLine):CallR X (.builtin "min") (λxs H Q=>∃ (p:Addr) (zs:List V) (ps:List (Int×Int)),xs=[.ref p]/\SqL X.K H p zs/\ps≠[]/\zs.length=ps.length ∧
  (∀ (i:Nat) z,zs[i]?=some z->∃ q,z=.ref q/\SqT X.K H q [.int (ps.getD i (0,0)).1,.int (ps.getD i (0,0)).2])/\∀ z,zs[argBest (btP ps) (ps.length - 1)]?=some z->Q z H):=by
 intro aa s U H xs us Q I r h
 obtain ⟨p,zs,ps,rfl,hq,ne,len,dW,q⟩:=h
 obtain ⟨u,rfl,ru⟩:=vals1 r
 cases ru
 obtain ⟨ac,rv,t,hz⟩:=I.list hq
 have ln:=rv.length
 have sz:ac.toArray.size=ps.length:=by rw [size_toArray,← ln,len]
 have tup:∀ i v,ac.toArray[i]?=some v->∃ q t1 t2,v=.ref q/\s.heap.IsTuple q #[.int (ps.getD i (0,0)).1 t1,.int (ps.getD i (0,0)).2 t2]:=λi v hv=>by
  have cF:ac[i]?=some v:=by simpa using hv
  have hi:i < zs.length:=by rw [ln];exact (List.getElem?_eq_some_iff.mp cF).1
  obtain ⟨q,e1,e2⟩:=dW i zs[i] (getElem?_eq_getElem hi)
  obtain ⟨w,e3,e4⟩:=rv.get (getElem?_eq_getElem hi)
  rw [cF] at e3
  cases e3
  rw [e1] at e4
  cases e4
  obtain ⟨bu,r2,t2,_⟩:=I.tuple e2
  obtain ⟨u1,u2,rfl,⟨k1,rfl⟩,⟨k2,rfl⟩⟩:=r2.two
  exact ⟨q,k1,k2,rfl,t2⟩
 refine EQ (bt:=btP ps) (I.ok.hd hc) t.isList (by rw [sz];exact length_pos_iff.mpr ne) (λg tk keep i j vi vj hi hj=>?_) λv g tk hv keep=>?_
 ·obtain ⟨q1,t1,t2,rfl,T1⟩:=tup i vi hi
  obtain ⟨q2,t3,t4,rfl,T2⟩:=tup j vj hj
  have up:∀ {q:Addr}{us:Array Value},s.heap.IsTuple q us->g.IsTuple q us:=λT=>by obtain ⟨o,e,r⟩:=T;exact ⟨o,keep _ o e,r⟩
  exact Ko (by show X.A.units+1 < cLine;omega) (up T1) (up T2)
 ·rw [sz] at hv
  have cF:ac[argBest (btP ps) (ps.length - 1)]?=some v:=by simpa using hv
  have hi:argBest (btP ps) (ps.length - 1) < zs.length:=by rw [ln];exact (List.getElem?_eq_some_iff.mp cF).1
  obtain ⟨w,e3,e4⟩:=rv.get (getElem?_eq_getElem hi)
  rw [cF] at e3
  cases e3
  exact ⟨_,H,I.kept keep,e4,q _ (getElem?_eq_getElem hi)⟩
noncomputable def minlF (ds:List D):Option D:=match ds with
 | [.lst xs]=>match prsD xs with
  | some (p::ps)=>some (prD (minP (p::ps)))
  | _=>none
 | _=>none
theorem HA {p:Pos}{t:M (List D)} (hc:X.calm=true) (hr:Room kr X.A) (hg:Gl X "min") (hm:X.mg "min"=none) (ha:AD X B [e] t) (he:starEach [e] X.env=(false,eval e X.env)::starEach [] X.env:=by rfl) (az:(backTo pos (starEach [] X.env)).any (·.1)=false:=by rfl) :
  ED X B (.Call (.Name "min" p) [e] [] pos) (fn1 minlF t):=uG (G6 hc (hu100 hr)) (λds d e B G I H U Y xs Q r h k=>by
 unfold minlF at e
 split at e
 ·split at e
  ·rename_i p1 ps eb
   cases e
   have:=IB _ _ eb
   subst this
   obtain ⟨x,rfl,hx⟩:=h.one
   obtain ⟨q,zs,rfl,h3,h4⟩:=tm hx
   have L:=h4.length
   rw [length_map] at L
   have jB:∀ (i:Nat) z,zs[i]?=some z->Is X.K I (prD ((p1::ps).getD i (0,0))) z:=λi z hz=>by
    have hi:i < (p1::ps).length:=by rw [L];exact (List.getElem?_eq_some_iff.mp hz).1
    obtain ⟨z',e1,e2⟩:=h4.get (i:=i) (d:=prD (p1::ps)[i]) (by rw [getElem?_map,getElem?_eq_getElem hi];rfl)
    rw [hz] at e1
    cases e1
    rw [getD_eq_getElem?_getD,getElem?_eq_getElem hi]
    exact e2
   refine ⟨q,zs,p1::ps,rfl,(Same.rdK r.iH h3).sq,by simp,L.symm,λi z hz=>?_,λz hz=>k.now r (jB _ z hz)⟩
   obtain ⟨q2,ys,rfl,e1,e2⟩:=sZ (jB i z hz)
   obtain ⟨y1,y2,rfl,f1,f2⟩:=e2.two
   rw [sV f1,sV f2] at e1
   exact ⟨q2,rfl,Same.sqT r.iH e1⟩
  ·cases e
 ·cases e) hg hm boot_min ha (by decide) (by decide) he az
end
end DL
namespace DL
open PySem PySem.W PyProof.Rows
structure Ord (lt:Nat->Nat->Bool):Prop where
 as:∀ a b,lt a b=true->lt b a=false
 tr:∀ a b c,lt b a=false->lt c b=false->lt c a=false
section
variable {n:Nat}{lt:Nat->Nat->Bool}{s:Shared}
def askIn (n:Nat) (lt:Nat->Nat->Bool):Nat->Nat->(Bool->Shared->Prop)->Shared->Prop:=λi j C s=>i < n/\j < n/\C (lt i j) s
def gt (p:Array Nat) (i:Nat):Nat:=p.getD i 0
def Pm (n:Nat) (p:Array Nat):Prop:=p.Perm (range n).toArray
def Dn (lt:Nat->Nat->Bool) (p:Array Nat) (m:Nat):Prop:=∀ i j,i < j->j < m->lt (gt p i) (gt p j)=false
def Up (lt:Nat->Nat->Bool) (p:Array Nat) (m:Nat):Prop:=∀ i j,i < j->j < m->lt (gt p j) (gt p i)=false
def Eqs (lt:Nat->Nat->Bool) (p:Array Nat) (a b:Nat):Prop:=∀ i j,a<=i->i < b->a<=j->j < b->lt (gt p i) (gt p j)=false
theorem Pm.size {p:Array Nat} (h:Pm n p):p.size=n:=by
 have:=h.size_eq
 simpa using this
theorem Pm.bd {p:Array Nat} (h:Pm n p) (pos:0 < n) (i:Nat):gt p i < n:=by
 unfold gt
 by_cases hi:i < p.size
 ·have:p[i]∈(range n).toArray:=h.mem_iff.mp (Array.getElem_mem hi)
  rw [getD,dif_pos hi]
  simpa using this
 ·rw [getD,dif_neg hi]
  exact pos
theorem w6 {p:Array Nat}{i:Nat}:gt p i=p[i]?.getD 0:=by
 unfold gt
 exact getD_eq_getD_getElem? ..
theorem uZ {p:Array Nat}{i j:Nat} (hj:j<=p.size) (k:Nat):gt (kas_rev p i j) k=if i<=k/\k < j then gt p (i+j - 1 - k) else gt p k:=by
 rw [w6,w6,w6]
 unfold kas_rev
 rw [getElem?_mirror_all hj]
 split<;>rfl
theorem Co {p:Array Nat}{cq d:Nat} (hs:cq < p.size) (hd:d<=cq) (k:Nat):gt (bubble p cq d) k=if k=cq - d then gt p cq else if cq - d < k/\k<=cq then gt p (k - 1) else gt p k:=by
 simp only [w6]
 rw [getElem?_bubble hs d hd]
 split
 ·rfl
 ·split<;>rfl
theorem Pm.rev {p:Array Nat} (h:Pm n p) (i j:Nat):Pm n (kas_rev p i j):=trans (mirror_perm _ _ _ _) h
theorem wV {α:Type}{mE:Nat->Nat->(Bool->Shared->Prop)->Shared->Prop}{Q:α->Shared->Prop}{P:α->Prop} (hc:∀ i j C,i < n->j < n->C (lt i j) s->mE i j C s) (hq:∀ a,P a->Q a s):∀ t:KasT α,t.kasWp (askIn n lt) (λa _=>P a) s->t.kasWp mE Q s
 | .ret a,h=>hq a h
 | .ask i j k,⟨h1,h2,h3⟩=>hc i j _ h1 h2 (wV hc hq (k (lt i j)) h3)
theorem wc {α Z:Type}{t:KasT α}{f:α->KasT Z}{P:α->Prop}{Q:Z->Prop} (h:t.kasWp (askIn n lt) (λa _=>P a) s) (k:∀ a,P a->(f a).kasWp (askIn n lt) (λb _=>Q b) s):(t.bind f).kasWp (askIn n lt) (λb _=>Q b) s:=by
 rw [KasT.kasWp_bind]
 exact wV (λi j C h1 h2 h3=>⟨h1,h2,h3⟩) (λa ha=>k a ha) t h
variable (O:Ord lt) (two:2<=n)
include O
theorem Ord.irr (a:Nat):lt a a=false:=by
 cases h:lt a a with
 | false=>rfl
 | true=>rw [← h];exact O.as a a h
theorem Ord.lt_le {a b c:Nat} (h1:lt a b=true) (h2:lt c b=false):lt a c=true:=by
 cases h:lt a c with
 | true=>rfl
 | false =>
  -- c<=a,b<=c
  have:=O.tr b c a h2 h
  rw [this] at h1;cases h1
include two
theorem y3 {p:Array Nat} (hp:Pm n p):∀ (f m:Nat),1<=m->(kas_asc p f m).kasWp (askIn n lt) (λm' _=>m<=m'/\m'<=m+f/\(∀ k,m<=k->k < m'->lt (gt p k) (gt p (k - 1))=false)/\(m' < m+f->lt (gt p m') (gt p (m' - 1))=true)) s
 | 0,m,_=>by
  rw [kas_asc]
  exact ⟨le_refl _,le_refl _,λk h1 h2=>by omega,λh=>by omega⟩
 | f+1,m,hm=>by
  rw [kas_asc]
  refine ⟨hp.bd (by omega) m,hp.bd (by omega) (m - 1),?_⟩
  cases h:lt (p.getD m 0) (p.getD (m - 1) 0) with
  | true =>
   dsimp only;rw [if_pos rfl]
   exact ⟨le_refl _,by omega,λk h1 h2=>by omega,λ_=>h⟩
  | false =>
   dsimp only;rw [if_neg Bool.false_ne_true]
   refine wV (λi j C h1 h2 h3=>⟨h1,h2,h3⟩) (λm' h'=>?_) _ (y3 hp f (m+1) (by omega))
   obtain ⟨a1,a2,a3,a4⟩:=h'
   refine ⟨by omega,by omega,λk h1 h2=>?_,λh'=>a4 (by omega)⟩
   by_cases z:k=m
   ·rw [z];exact h
   ·exact a3 k (by omega) h2
omit two in
theorem Up.of_steps {p:Array Nat}{m m':Nat} (hm:Up lt p m) (st:∀ k,m<=k->k < m'->1<=k->lt (gt p k) (gt p (k - 1))=false):Up lt p m':=by
 intro i j
 induction j with
 | zero=>intro h;omega
 | succ j ih =>
  intro df hj
  by_cases z:j+1 < m
  ·exact hm i (j+1) df z
  ·have s1:=st (j+1) (by omega) hj (by omega)
   rw [Nat.add_sub_cancel] at s1
   by_cases e:i=j
   ·rw [e];exact s1
   ·exact O.tr _ _ _ (ih (by omega) (by omega)) s1
omit two O in
theorem Dn.up {p:Array Nat}{m:Nat} (hm:m<=p.size) (h:Dn lt p m):Up lt (kas_rev p 0 m) m:=by
 intro i j df hj
 rw [uZ hm,uZ hm,if_pos ⟨zero_le _,hj⟩,if_pos ⟨zero_le _,by omega⟩]
 exact h _ _ (by omega) (by omega)
omit two O in
theorem Dn.turn {p:Array Nat}{m a:Nat} (hm:m<=p.size) (h:Dn lt p m) (e:Eqs lt p a m):Dn lt (kas_rev p a m) m:=by
 intro i j df hj
 rw [uZ hm,uZ hm]
 by_cases h1:a<=i
 ·rw [if_pos ⟨h1,by omega⟩,if_pos ⟨by omega,hj⟩]
  exact e _ _ (by omega) (by omega) (by omega) (by omega)
 ·rw [if_neg (by omega)]
  by_cases h2:a<=j
  ·rw [if_pos ⟨h2,hj⟩]
   exact h _ _ (by omega) (by omega)
  ·rw [if_neg (by omega)]
   exact h _ _ df hj
omit two in
theorem Dn.next {p:Array Nat}{m:Nat} (h:Dn lt p m) (hm:1<=m) (st:lt (gt p (m - 1)) (gt p m)=false):Dn lt p (m+1):=by
 intro i j df hj
 by_cases z:j < m
 ·exact h i j df z
 ·have:j=m:=by omega
  subst this
  by_cases e:i=j - 1
  ·rw [e];exact st
  ·exact O.tr _ _ _ st (h i (j - 1) (by omega) (by omega))
theorem ya:∀ (f:Nat) (p:Array Nat) (m q:Nat),Pm n p->1<=m->m+f<=n->q < m->Dn lt p m->Eqs lt p (m - (q+1)) m →
  (kas_desc f p m q).kasWp (askIn n lt) (λr _=>Pm n r.1/\1<=r.2.1/\r.2.1<=n/\r.2.2 < r.2.1/\Dn lt r.1 r.2.1/\Eqs lt r.1 (r.2.1 - (r.2.2+1)) r.2.1) s
 | 0,p,m,q,hp,h1,h2,h3,h4,h5=>by
  rw [kas_desc]
  exact ⟨hp,h1,(by show m<=n;omega),h3,h4,h5⟩
 | f+1,p,m,q,hp,h1,h2,h3,h4,h5=>by
  rw [kas_desc]
  have one:∀ (p':Array Nat),Pm n p'->Eqs lt p' (m+1 - (0+1)) (m+1):=λp' _ i j a b c d=>by
   have:i=m:=by omega
   have:j=m:=by omega
   subst i;subst j
   exact O.irr _
  refine ⟨hp.bd (by omega) m,hp.bd (by omega) (m - 1),?_⟩
  cases h:lt (p.getD m 0) (p.getD (m - 1) 0) with
  | true =>
   dsimp only;rw [if_pos rfl]
   have st:lt (gt p (m - 1)) (gt p m)=false:=O.as _ _ h
   split
   ·have sz:m<=p.size:=by rw [hp.size];omega
    refine ya f _ (m+1) 0 (hp.rev _ _) (by omega) (by omega) (by omega) (Dn.next O (h4.turn sz h5) h1 ?_) (one _ (hp.rev _ _))
    rw [uZ sz,uZ sz,if_pos ⟨by omega,by omega⟩,if_neg (by omega)]
    refine O.tr _ _ _ st ?_
    exact h5 _ _ (by omega) (by omega) (by omega) (by omega)
   ·exact ya f _ (m+1) 0 hp (by omega) (by omega) (by omega) (Dn.next O h4 h1 st) (one _ hp)
  | false =>
   dsimp only;rw [if_neg Bool.false_ne_true]
   refine ⟨hp.bd (by omega) (m - 1),hp.bd (by omega) m,?_⟩
   cases h':lt (p.getD (m - 1) 0) (p.getD m 0) with
   | true =>
    dsimp only;rw [if_pos rfl]
    exact ⟨hp,h1,(by show m<=n;omega),h3,h4,h5⟩
   | false =>
    dsimp only;rw [if_neg Bool.false_ne_true]
    refine ya f p (m+1) (q+1) hp (by omega) (by omega) (by omega) (Dn.next O h4 h1 h') λi j a b c d=>?_
    have up:∀ i,m - (q+1)<=i->i < m->lt (gt p i) (gt p m)=false:=λi x y=>O.tr _ _ _ h' (h5 i (m - 1) x y (by omega) (by omega))
    have dn:∀ i,m - (q+1)<=i->i < m->lt (gt p m) (gt p i)=false:=λi x y=>O.tr _ _ _ (h5 (m - 1) i (by omega) (by omega) x y) h
    by_cases zi:i=m
    ·by_cases zj:j=m
     ·rw [zi,zj];exact O.irr _
     ·rw [zi];exact dn j (by omega) (by omega)
    ·by_cases zj:j=m
     ·rw [zj];exact up i (by omega) (by omega)
     ·exact h5 i j (by omega) (by omega) (by omega) (by omega)
theorem BF {p:Array Nat}{m:Nat} (hp:Pm n p) (h1:1<=m) (h2:m<=n) (h:Dn lt p m):(kas_tail3 m n p).kasWp (askIn n lt) (λr _=>1<=r.1/\r.1<=n/\Pm n r.2/\Up lt r.2 r.1) s:=by
 unfold kas_tail3
 refine wc (y3 O two (hp.rev 0 m) (n - m) m h1) λm' ⟨a1,a2,a3,_⟩=>?_
 have up:=h.up (by rw [hp.size];exact h2)
 exact ⟨by omega,by omega,hp.rev 0 m,Up.of_steps O up λk x y _=>a3 k x y⟩
theorem DA {p:Array Nat}{m:Nat} (hp:Pm n p) (h1:1<=m) (h2:m < n) (h:Dn lt p (m+1)):(kas_descPart m n p).kasWp (askIn n lt) (λr _=>1<=r.1/\r.1<=n/\Pm n r.2/\Up lt r.2 r.1) s:=by
 unfold kas_descPart
 refine wc (ya O two (n - (m+1)) p (m+1) 0 hp (by omega) (by omega) (by omega) h λi j a b c d=>?_) λr ⟨b1,b2,b3,b4,b5,b6⟩=>?_
 ·have:i=m:=by omega
  have:j=m:=by omega
  subst i;subst j
  exact O.irr _
 ·split
  ·exact BF O two (b1.rev _ _) b2 b3 (b5.turn (by rw [b1.size];exact b3) b6)
  ·exact BF O two b1 b2 b3 b5
theorem Gk {p:Array Nat} (hp:Pm n p):(kas_count n p).kasWp (askIn n lt) (λr _=>1<=r.1/\r.1<=n/\Pm n r.2/\Up lt r.2 r.1) s:=by
 unfold kas_count
 refine wc (y3 O two hp (n - 1) 1 (le_refl _)) λm ⟨a1,a2,a3,a4⟩=>?_
 have up1:Up lt p m:=Up.of_steps O (m:=1) (λi j x y=>by omega) λk x y z=>a3 k x y
 split
 ·exact ⟨a1,by omega,hp,up1⟩
 ·rename_i ne
  have ne:m≠n:=by simpa using ne
  have fA:=a4 (by omega)
  split
  ·refine ⟨hp.bd (by omega) 0,hp.bd (by omega) (m - 1),?_⟩
   cases h:lt (p.getD 0 0) (p.getD (m - 1) 0) with
   | true =>
    dsimp only;rw [if_pos rfl]
    exact ⟨a1,by omega,hp,up1⟩
   | false =>
    dsimp only;rw [if_neg Bool.false_ne_true]
    have all:Eqs lt p 0 m:=λi j x1 x2 y1 y2=>by
     -- the first is not less than the fA,and they rise
     have l0:∀ i,i < m->lt (gt p i) (gt p 0)=false:=λi x=>by
      by_cases z:i=0
      ·rw [z];exact O.irr _
      ·exact up1 0 i (by omega) x
     have lz:∀ j,j < m->lt (gt p (m - 1)) (gt p j)=false:=λj x=>by
      by_cases z:j=m - 1
      ·rw [z];exact O.irr _
      ·exact up1 j (m - 1) (by omega) (by omega)
     -- i against j: i<=fA<=first<=j,whichever
     have f1:lt (gt p i) (gt p (m - 1))=false:=O.tr _ _ _ h (l0 i x2)
     exact O.tr _ _ _ (lz j y2) f1
    have sz:m<=p.size:=by rw [hp.size];omega
    have all2:Dn lt (kas_rev p 0 m) m:=Dn.turn sz (λi j x y=>all i j (zero_le _) (by omega) (zero_le _) y) all
    refine DA O two (hp.rev _ _) a1 (by omega) (Dn.next O all2 a1 ?_)
    rw [uZ sz,uZ sz,if_pos ⟨zero_le _,by omega⟩,if_neg (by omega)]
    refine O.tr _ _ _ (O.as _ _ fA) ?_
    exact all _ _ (zero_le _) (by omega) (zero_le _) (by omega)
  ·have:m=1:=by omega
   subst this
   exact DA O two hp (le_refl _) (by omega) (Dn.next O (λi j x y=>by omega) (le_refl _) (O.as _ _ fA))
theorem zX {p:Array Nat}{k:Nat} (hp:Pm n p) (hk:k < n) (up:Up lt p k):∀ (f l r:Nat),l<=r->r<=k->r - l<=f->(∀ i,i < l->lt (gt p k) (gt p i)=false)->(∀ i,r<=i->i < k->lt (gt p k) (gt p i)=true) →
  (kas_place p k f l r).kasWp (askIn n lt) (λl' _=>l'<=k/\(∀ i,i < l'->lt (gt p k) (gt p i)=false)/\∀ i,l'<=i->i < k->lt (gt p k) (gt p i)=true) s
 | 0,l,r,h1,h2,h3,h4,h5=>by
  rw [kas_place]
  exact ⟨by omega,h4,λi x y=>h5 i (by omega) y⟩
 | f+1,l,r,h1,h2,h3,h4,h5=>by
  rw [kas_place]
  split
  ·exact ⟨by omega,h4,λi x y=>h5 i (by omega) y⟩
  ·refine ⟨hp.bd (by omega) k,hp.bd (by omega) _,?_⟩
   cases h:lt (p.getD k 0) (p.getD ((l+r) / 2) 0) with
   | true =>
    dsimp only;rw [if_pos rfl]
    refine zX hp hk up f l ((l+r) / 2) (by omega) (by omega) (by omega) h4 λi x y=>?_
    by_cases z:i=(l+r) / 2
    ·rw [z];exact h
    ·exact O.lt_le h (up _ _ (by omega) y)
   | false =>
    dsimp only;rw [if_neg Bool.false_ne_true]
    refine zX hp hk up f ((l+r) / 2+1) r (by omega) (by omega) (by omega) (λi x=>?_) h5
    by_cases z:i=(l+r) / 2
    ·rw [z];exact h
    ·exact O.tr _ _ _ (up i ((l+r) / 2) (by omega) (by omega)) h
theorem DX:∀ (f:Nat) (p:Array Nat) (k:Nat),Pm n p->Up lt p k->1<=k->k+f=n->(kas_bin f p k).kasWp (askIn n lt) (λp' _=>Pm n p'/\Up lt p' n) s
 | 0,p,k,hp,up,h1,h2=>by
  rw [kas_bin]
  have:k=n:=by omega
  subst this
  exact ⟨hp,up⟩
 | f+1,p,k,hp,up,h1,h2=>by
  rw [kas_bin]
  refine wc (zX O two hp (by omega) up k 0 k (zero_le _) (le_refl _) (by omega) (λi h=>by omega) λi x y=>by omega) λl ⟨c1,c2,c3⟩=>?_
  refine DX f _ (k+1) (trans (bubble_perm _ _ _) hp) (λi j df hj=>?_) (by omega) (by omega)
  have hk:k < p.size:=by rw [hp.size];omega
  rw [Co hk (by omega),Co hk (by omega),show k - (k - l)=l by omega]
  by_cases j1:j=l
  ·rw [if_pos j1,if_neg (by omega),if_neg (by omega)]
   exact c2 i (by omega)
  ·rw [if_neg j1]
   by_cases j2:l < j/\j<=k
   ·rw [if_pos j2]
    by_cases i1:i=l
    ·rw [if_pos i1]
     exact O.as _ _ (c3 (j - 1) (by omega) (by omega))
    ·rw [if_neg i1]
     by_cases i2:l < i/\i<=k
     ·rw [if_pos i2];exact up _ _ (by omega) (by omega)
     ·rw [if_neg i2];exact up _ _ (by omega) (by omega)
   ·rw [if_neg j2,if_neg (by omega),if_neg (by omega)]
    exact up _ _ df (by omega)
theorem IR:(kas_sort n).kasWp (askIn n lt) (λp _=>Pm n p/\Up lt p n) s:=by
 unfold kas_sort
 refine wc (Gk O two (p:=(range n).toArray) (Array.Perm.refl _)) λr ⟨a1,a2,a3,a4⟩=>?_
 split
 ·refine DX O two _ _ _ a3 ?_ (by omega) (by omega)
  rw [Nat.max_eq_left a1]
  exact a4
 ·have:r.1=n:=by omega
  rw [this] at a4
  exact ⟨a3,a4⟩
end
end DL
namespace DL
open PySem PySem.W PySem.Spec PyProof.Rows
section
variable {prog:Program}{w:World}{A:Around}{E:Value->Shared->Prop}{s:Shared}
noncomputable def byP (vs:List Value) (p:Array Nat):List Value:=p.toList.map λi=>vs.getD i Value.none
theorem HL (vs:List Value):byP vs (range vs.length).toArray=vs:=by
 unfold byP
 refine List.ext_getElem (by simp) λi h1 h2=>?_
 simp [h2]
theorem Gf {vs:List Value}{p:Array Nat} (h:Pm vs.length p):(byP vs p).length=vs.length:=by
 unfold byP
 rw [length_map,length_toList,h.size]
def KeptBut (a:Addr) (h h':Heap):Prop:=∀ b o,b≠a->h.get? b=some o->h'.get? b=some o
theorem LM {a:Addr}{vs:List Value}{e:Nat}{κ:SortKind}{lt:Nat->Nat->Bool}{P:PySem.Fin->Shared->Prop} (ho:s.heap.get? a=some (seqObj "list" vs.toArray e)) (iL:vs.length < 64) (O:Ord lt)
  (kind:∀ h' Q,KeptBut a s.heap h'->2<=vs.length->Q κ { s with heap:=h' }->wpAny (model prog w) A (keyKind' vs.toArray) Q E { s with heap:=h' })
  (less:∀ h' i j C,KeptBut a s.heap h'->i < vs.length->j < vs.length->C (lt i j) { s with heap:=h' }->wpAny (model prog w) A (keyLt' κ (vs.getD i Value.none) (vs.getD j Value.none)) C (λ_ _=>False) { s with heap:=h' })
  (fin:∀ p h' c,Pm vs.length p->Up lt p vs.length->KeptBut a s.heap h'->h'.get? a=some (seqObj "list" (byP vs p).toArray c)->P (.done (.ret .none)) { s with heap:=h' }) :
  wpAny (model prog w) A (Builtin.«list.sort» ⟨[.ref a],[]⟩) P E s:=by
 have line:64<=sizeLine:=by rw [sizeLine_eq];decide
 obtain ⟨g1,ko⟩:∃ g1,g1=s.heap.update a (mapSeq λ_=>(#[]:Array Value)):=⟨_,rfl⟩
 obtain ⟨e1,o1⟩:∃ e1,g1.get? a=some (seqObj "list" #[] e1):=⟨_,by rw [ko];exact get?_update_seq ho _⟩
 have k1:KeptBut a s.heap g1:=λb o ne x=>by rw [ko];exact (get?_update_other _ _ (Ne.symm ne)).trans x
 obtain ⟨g2,kq⟩:∃ g2,g2=(g1.push (seqObj "tuple" vs.toArray 0)).push (seqObj "list" #[] 0):=⟨_,rfl⟩
 have o2:g2.get? a=some (seqObj "list" #[] e1):=by rw [kq];exact get?_push_of_some _ (get?_push_of_some _ o1)
 have k2:KeptBut a s.heap g2:=λb o ne x=>by rw [kq];exact get?_push_of_some _ (get?_push_of_some _ (k1 b o ne x))
 have jC:∀ kt,(2<=vs.length->kt=κ)->wpAny (model prog w) A ((if vs.toArray.size < 2 then pure () else sortRuns').run (SortSt.mk' kt (vs.toArray.zip vs.toArray) #[] 7 none))
   (λr s'=>s'={ s with heap:=g2 }/\∃ p,Pm vs.length p/\Up lt p vs.length/\(arrOf r.2).map (·.2)=(byP vs p).toArray/\failedOf r.2=none) E { s with heap:=g2 }:=λkt ph=>by
  rcases lt_or_ge vs.length 2 with small | dg
  ·rw [if_pos (by rw [size_toArray];exact small)]
   refine wpAny_pure ⟨rfl,(range vs.length).toArray,Array.Perm.refl _,λi j x y=>by omega,?_,rfl⟩
   rw [HL]
   show ((vs.toArray.zip vs.toArray).map (·.2))=_
   refine Array.ext (by simp) λi h1 h2=>by simp
  ·rw [if_neg (by rw [size_toArray];omega),ph dg]
   refine kat_run (ks:=vs) (vs:=vs) (G:=λp s'=>(Pm vs.length p/\Up lt p vs.length)/\s'={ s with heap:=g2 }) (Q:=λst s'=>s'={ s with heap:=g2 }/\∃ p,Pm vs.length p/\Up lt p vs.length/\(arrOf st).map (·.2)=(byP vs p).toArray/\failedOf st=none) rfl dg iL ?_ ?_
   ·rintro p st s' hz kx aU ⟨⟨hp,up⟩,rfl⟩
    exact ⟨rfl,p,hp,up,kat_snds rfl kx,aU⟩
   ·exact wV (P:=λp=>Pm vs.length p/\Up lt p vs.length) (λi j C h1 h2 h3=>less g2 i j C k2 h1 h2 h3) (λp hp=>⟨hp,rfl⟩) _ (IR O dg)
 rw [list_sort_plain]
 refine wpAny_bind (listItems_at ho rfl (wpAny_bind (listUpdate_at ho rfl ?_ (by rw [size_toArray];omega) (zero_le _))))
 rw [← ko]
 refine wpAny_bind (seqEpoch_at o1 rfl (wpAny_bind (wpAny_newTuple (wpAny_bind (wpAny_newList (wpAny_holding ?_) (zero_le _))) (by show vs.length<=_;omega))))
 show wpAny (model prog w) A _ P E { s with heap:=(g1.push (seqObj "tuple" vs.toArray 0)).push (seqObj "list" #[] 0) }
 rw [← kq]
 dsimp only
 rcases lt_or_ge vs.length 2 with small | dg
 all_goals
  first
   | (rw [if_pos (by rw [size_toArray];exact small)];refine wpAny_bind (wpAny_pure ?_);have step:=jC general' λh=>by omega)
   | (rw [if_neg (by rw [size_toArray];omega)];refine wpAny_bind (kind g2 _ k2 dg ?_);have step:=jC κ λ_=>rfl)
  refine wpAny_bind (wpAny_mono step (λr s' h=>?_) λ_ _ x=>x)
  obtain ⟨rfl,p,hp,up,kx,aU⟩:=h
  rw [kx,aU]
  refine wpAny_bind (seqEpoch_at o2 rfl (wpAny_bind (listUpdate_at o2 rfl ?_ (zero_le _) ?_)))
  ·dsimp only
   rw [bne_self_eq_false,if_neg Bool.false_ne_true]
   exact wpAny_pure (fin p _ _ hp up (λb o ne x=>(get?_update_other _ _ (Ne.symm ne)).trans (k2 b o ne x)) (get?_update_seq o2 λ_=>(byP vs p).toArray))
  ·show (byP vs p).toArray.size<=_
   rw [size_toArray,Gf hp]
   omega
theorem zy {l:Addr}{vs:List Value}{κ:SortKind}{lt:Nat->Nat->Bool}{Q:Value->Shared->Prop} (iL:vs.length < 64) (O:Ord lt)
  (col:∀ Q':List Value->Shared->Prop,(∀ h' tk,(∀ b o,s.heap.get? b=some o->h'.get? b=some o)->s.heap.objs.size<=h'.objs.size->Q' vs { s with heap:=h',toks:=tk })->wpAny (model prog w) A.in1 (collect (.ref l)) Q' E s)
  (kind:∀ h' tk Q,(∀ b o,s.heap.get? b=some o->h'.get? b=some o)->2<=vs.length->Q κ { s with heap:=h',toks:=tk }->wpAny (model prog w) A.in1.in1 (keyKind' vs.toArray) Q (λ_ _=>False) { s with heap:=h',toks:=tk })
  (less:∀ h' tk i j C,(∀ b o,s.heap.get? b=some o->h'.get? b=some o)->i < vs.length->j < vs.length->C (lt i j) { s with heap:=h',toks:=tk }->wpAny (model prog w) A.in1.in1 (keyLt' κ (vs.getD i Value.none) (vs.getD j Value.none)) C (λ_ _=>False) { s with heap:=h',toks:=tk })
  (fin:∀ p h' tk D c,Pm vs.length p->Up lt p vs.length->(∀ b o,s.heap.get? b=some o->h'.get? b=some o)->s.heap.objs.size<=D->h'.get? D=some (seqObj "list" (byP vs p).toArray c)->Q (.ref D) { s with heap:=h',toks:=tk }) :
  wpAny (model prog w) A (call (.builtin "sorted") [Value.ref l]) Q E s:=by
 have line:64<=sizeLine:=by rw [sizeLine_eq];decide
 refine Calls.call_function_entry kind_sorted plain_sorted entry_sorted (args_sorted1 _) ?_;refine wpAny_bind (m:=checkCount "sorted" 1 1 _) (wpAny_pure (wpAny_bind (col _ λg tk kg above=>wpAny_bind (wpAny_newList ?_ (by omega)))))
 have bj:(g.push (seqObj "list" vs.toArray 0)).get? g.objs.size=some (seqObj "list" vs.toArray 0):=get?_push_size _ rfl
 have old:∀ (h':Heap),KeptBut g.objs.size (g.push (seqObj "list" vs.toArray 0)) h'->∀ b o,s.heap.get? b=some o->h'.get? b=some o:=λh' k b o x =>
  k b o (ne_of_lt (lt_of_lt_of_le (lt_size x) above)) (get?_push_of_some _ (kg b o x))
 refine wpAny_bind (wpAny_holding (wpAny_call_entry PyProof.Rows.slot_list_sort ⟨_,bj,rfl⟩ PyProof.Rows.entry_list_sort ?_ (args_list_sort _)))
 refine LM (s:={ s with heap:=g.push (seqObj "list" vs.toArray 0),toks:=tk }) (lt:=lt) (κ:=κ) bj iL O (λh' Q' k two q=>wpAny_mono (kind h' tk Q' (old h' k) two q) (λ_ _ x=>x) λ_ _ x=>x.elim) (λh' i j C k=>less h' tk i j C (old h' k)) λp h' c hp up k here=>?_
 exact ⟨_,rfl,wpAny_pure ⟨_,rfl,fin p h' tk _ c hp up (old h' k) above here⟩⟩
end
end DL
namespace DL
open PySem PySem.W PySem.Spec PyProof.Rows L2
noncomputable def rk:D->Nat
 | .non=>0
 | .bl _=>1
 | .int _=>2
 | .str _=>3
 | .tup _=>4
 | .lst _=>5
noncomputable def cI (a b:Int):Ordering:=if a < b then .lt else if b < a then .gt else .eq
mutual
noncomputable def cO:D->D->Ordering
 | .int a,.int b=>cI a b
 | .tup xs,.tup ys=>cOA xs ys
 | a,b=>cI (rk a) (rk b)
noncomputable def cOA:List D->List D->Ordering
 | [],[]=>.eq
 | [],_::_=>.lt
 | _::_,[]=>.gt
 | x::xs,y::ys=>(cO x y).then (cOA xs ys)
end
theorem vC (a b:Int):cI b a=(cI a b).swap:=by
 unfold cI
 by_cases h1:a < b
 ·rw [if_pos h1,if_neg (by omega),if_pos h1];rfl
 ·by_cases h2:b < a
  ·rw [if_pos h2,if_neg h1,if_pos h2];rfl
  ·rw [if_neg h2,if_neg h1,if_neg h1,if_neg h2];rfl
theorem A1 {a b:D} (h:rk a≠rk b):cO a b=cI (rk a) (rk b):=by
 cases a<;>cases b<;>first | rfl | (exact absurd rfl h) | (simp [cO];done)
mutual
theorem yW:∀ a b:D,cO b a=(cO a b).swap
 | .int a,b=>by
  cases b<;>simp only [cO]<;>exact vC _ _
 | .tup xs,b=>by
  cases b<;>simp only [cO]<;>first | exact vC _ _ | exact Bl _ _
 | .non,b=>by cases b<;>simp only [cO]<;>exact vC _ _
 | .bl _,b=>by cases b<;>simp only [cO]<;>exact vC _ _
 | .str _,b=>by cases b<;>simp only [cO]<;>exact vC _ _
 | .lst _,b=>by cases b<;>simp only [cO]<;>exact vC _ _
theorem Bl:∀ xs ys:List D,cOA ys xs=(cOA xs ys).swap
 | [],[]=>by simp [cOA]
 | [],_::_=>by simp [cOA]
 | _::_,[]=>by simp [cOA]
 | x::xs,y::ys=>by
  rw [cOA,cOA,yW x y,Bl xs ys]
  cases cO x y<;>rfl
end
def dl (a b:D):Bool:=cO a b == .lt
def dlA (xs ys:List D):Bool:=cOA xs ys == .lt
theorem yU (a b:Int):(cI a b == Ordering.lt)=decide (a < b):=by
 unfold cI
 by_cases h1:a < b
 ·rw [if_pos h1];simp [h1]
 ·rw [if_neg h1]
  split<;>simp [h1]
theorem u9 {a b:Int}:dl (.int a) (.int b)=decide (a < b):=by
 unfold dl
 rw [cO,yU]
theorem wo {xs ys:List D}:dl (.tup xs) (.tup ys)=dlA xs ys:=by
 unfold dl dlA
 rw [cO]
theorem yd:dlA [] []=false:=by unfold dlA;simp [cOA]
theorem vN {y:D}{ys:List D}:dlA [] (y::ys)=true:=by unfold dlA;simp [cOA]
theorem wD {y:D}{ys:List D}:dlA (y::ys) []=false:=by unfold dlA;simp [cOA]
theorem v7 {x y:D}{xs ys:List D}:dlA (x::xs) (y::ys)=(dl x y||(!dl y x&&dlA xs ys)):=by
 unfold dlA dl
 rw [cOA,yW x y]
 cases cO x y<;>simp [Ordering.then,Ordering.swap]
theorem BH {a b:D} (h:rk a < rk b):dl a b=true:=by
 unfold dl
 rw [A1 (ne_of_lt h),yU]
 simp;omega
theorem Hy {a b:D} (h:rk b < rk a):dl a b=false:=by
 unfold dl
 rw [A1 (ne_of_gt h),yU]
 simp;omega
theorem wO {a b:D} (h:rk a=rk b) (h1:rk a≠2) (h2:rk a≠4):dl a b=false:=by
 unfold dl
 cases a<;>cases b<;>first | (simp [rk] at h;done) | (exact absurd rfl h1) | (exact absurd rfl h2) | (simp [cO,cI,rk];done)
mutual
theorem wF:∀ a b c:D,dl b a=false->dl c b=false->dl c a=false:=λa b c h1 h2=>by
 have r1:rk a<=rk b:=Nat.le_of_not_lt λh=>by rw [BH h] at h1;cases h1
 have r2:rk b<=rk c:=Nat.le_of_not_lt λh=>by rw [BH h] at h2;cases h2
 rcases lt_or_ge (rk a) (rk c) with h | h
 ·exact Hy h
 ·have e1:rk b=rk a:=by omega
  have e2:rk c=rk a:=by omega
  match a,b,c with
  | .int a,.int b,.int c =>
   rw [u9] at h1 h2 ⊢
   simp at h1 h2 ⊢
   omega
  | .tup xs,.tup ys,.tup zs =>
   rw [wo] at h1 h2 ⊢
   exact Ct xs ys zs h1 h2
  | .non,_,_=>exact wO e2 (by rw [e2];decide) (by rw [e2];decide)
  | .bl _,_,_=>exact wO e2 (by rw [e2];simp [rk]) (by rw [e2];simp [rk])
  | .str _,_,_=>exact wO e2 (by rw [e2];simp [rk]) (by rw [e2];simp [rk])
  | .lst _,_,_=>exact wO e2 (by rw [e2];simp [rk]) (by rw [e2];simp [rk])
termination_by a b c=>sizeOf a+sizeOf b+sizeOf c
decreasing_by all_goals (simp_wf;omega)
theorem Ct:∀ xs ys zs:List D,dlA ys xs=false->dlA zs ys=false->dlA zs xs=false
 | [],_,[],_,_=>yd
 | [],_,z::zs,_,_=>wD
 | x::xs,[],_,h1,_=>by rw [vN] at h1;cases h1
 | x::xs,y::ys,[],_,h2=>by rw [vN] at h2;cases h2
 | x::xs,y::ys,z::zs,h1,h2=>by
  simp only [v7,Bool.or_eq_false_iff,Bool.and_eq_false_iff,Bool.not_eq_false'] at h1 h2 ⊢
  obtain ⟨a1,a2⟩:=h1
  obtain ⟨b1,b2⟩:=h2
  refine ⟨wF x y z a1 b1,?_⟩
  cases hx:dl x z with
  | true=>exact .inl rfl
  | false =>
   right
   rcases a2 with a2 | a2
   ·have:=wF y z x b1 hx
    rw [a2] at this;cases this
   ·rcases b2 with b2 | b2
    ·have:=wF z x y hx a1
     rw [b2] at this;cases this
    ·exact Ct xs ys zs a2 b2
termination_by xs ys zs=>sizeOf xs+sizeOf ys+sizeOf zs
decreasing_by all_goals (simp_wf;omega)
end
theorem CV (a b:D) (h:dl a b=true):dl b a=false:=by
 unfold dl at h ⊢
 rw [yW a b]
 cases e:cO a b<;>rw [e] at h<;>first | rfl | (cases h;done)
theorem yz (ds:List D):Ord λi j=>dl (ds.getD i .non) (ds.getD j .non):=⟨λa b h=>CV _ _ h,λa b c h1 h2=>wF _ _ _ h1 h2⟩
mutual
noncomputable def cmB:D->D->Bool
 | .int _,.int _=>true
 | .tup xs,.tup ys=>cmA xs ys
 | _,_=>false
noncomputable def cmA:List D->List D->Bool
 | x::xs,y::ys=>cmB x y&&cmA xs ys
 | _,_=>true
end
mutual
theorem vP:∀ a b:D,cmB a b=true->deq a b=(!dl a b&&!dl b a)
 | .int a,.int b,_=>by
  rw [u9,u9]
  by_cases h:a=b
  ·simp [deq,h]
  ·rcases Int.lt_or_gt_of_ne h with h' | h'
   ·simp [deq,h,h']
   ·simp [deq,h,h']
 | .tup xs,.tup ys,h=>by
  rw [cmB] at h
  rw [deq,wo,wo]
  exact Et xs ys h
 | .non,_,h=>by simp [cmB] at h
 | .bl _,_,h=>by simp [cmB] at h
 | .str _,_,h=>by simp [cmB] at h
 | .lst _,_,h=>by simp [cmB] at h
 | .int _,.non,h=>by simp [cmB] at h
 | .int _,.bl _,h=>by simp [cmB] at h
 | .int _,.str _,h=>by simp [cmB] at h
 | .int _,.tup _,h=>by simp [cmB] at h
 | .int _,.lst _,h=>by simp [cmB] at h
 | .tup _,.non,h=>by simp [cmB] at h
 | .tup _,.bl _,h=>by simp [cmB] at h
 | .tup _,.str _,h=>by simp [cmB] at h
 | .tup _,.int _,h=>by simp [cmB] at h
 | .tup _,.lst _,h=>by simp [cmB] at h
theorem Et:∀ xs ys:List D,cmA xs ys=true->deqA xs ys=(!dlA xs ys&&!dlA ys xs)
 | [],[],_=>by simp [deqA,yd]
 | [],_::_,_=>by simp [deqA,vN,wD]
 | _::_,[],_=>by simp [deqA,vN,wD]
 | x::xs,y::ys,h=>by
  rw [cmA,and_eq_true] at h
  rw [deqA,vP x y h.1,Et xs ys h.2,v7,v7]
  cases h1:dl x y<;>cases h2:dl y x<;>simp
end
mutual
theorem wM:∀ a b:D,cmB a b=true->deq a b=true->a=b
 | .int a,.int b,_,h=>by simp [deq] at h;rw [h]
 | .tup xs,.tup ys,c,h=>by
  rw [cmB] at c
  rw [deq] at h
  rw [DS xs ys c h]
 | .non,_,h,_=>by simp [cmB] at h
 | .bl _,_,h,_=>by simp [cmB] at h
 | .str _,_,h,_=>by simp [cmB] at h
 | .lst _,_,h,_=>by simp [cmB] at h
 | .int _,.non,h,_=>by simp [cmB] at h
 | .int _,.bl _,h,_=>by simp [cmB] at h
 | .int _,.str _,h,_=>by simp [cmB] at h
 | .int _,.tup _,h,_=>by simp [cmB] at h
 | .int _,.lst _,h,_=>by simp [cmB] at h
 | .tup _,.non,h,_=>by simp [cmB] at h
 | .tup _,.bl _,h,_=>by simp [cmB] at h
 | .tup _,.str _,h,_=>by simp [cmB] at h
 | .tup _,.int _,h,_=>by simp [cmB] at h
 | .tup _,.lst _,h,_=>by simp [cmB] at h
theorem DS:∀ xs ys:List D,cmA xs ys=true->deqA xs ys=true->xs=ys
 | [],[],_,_=>rfl
 | [],_::_,_,h=>by simp [deqA] at h
 | _::_,[],_,h=>by simp [deqA] at h
 | x::xs,y::ys,c,h=>by
  rw [cmA,and_eq_true] at c
  rw [deqA,and_eq_true] at h
  rw [wM x y c.1 h.1,DS xs ys c.2 h.2]
end
open PySem.SeqAt in
theorem Dq (e lt:Nat->Bool) (d:Bool) (f:Nat->Nat):∀ l:List Nat,ltFrom e lt d (l.map f)=ltFrom (λi=>e (f i)) (λi=>lt (f i)) d l
 | []=>rfl
 | i::l=>by rw [map_cons,ltFrom,ltFrom,Dq e lt d f l]
open PySem.SeqAt in
theorem CT:∀ xs ys:List D,cmA xs ys=true->ltFrom (λj=>deq (xs.getD j .non) (ys.getD j .non)) (λj=>dl (xs.getD j .non) (ys.getD j .non)) (decide (xs.length < ys.length)) (range (min xs.length ys.length))=dlA xs ys
 | [],[],_=>by simp [ltFrom,yd]
 | [],_::_,_=>by simp [ltFrom,vN]
 | _::_,[],_=>by simp [ltFrom,wD]
 | x::xs,y::ys,c=>by
  rw [cmA,and_eq_true] at c
  have ih:=CT xs ys c.2
  rw [length_cons,length_cons,Nat.succ_min_succ,range_succ_eq_map,ltFrom,Dq,v7]
  have e:ltFrom (λi=>deq ((x::xs).getD i.succ .non) ((y::ys).getD i.succ .non)) (λi=>dl ((x::xs).getD i.succ .non) ((y::ys).getD i.succ .non)) (decide (xs.length+1 < ys.length+1)) (range (min xs.length ys.length))=dlA xs ys:=by
   rw [← ih]
   congr 1
   simp
  rw [e]
  show (if deq x y=true then dlA xs ys else dl x y)=_
  rw [vP x y c.1]
  cases h1:dl x y<;>cases h2:dl y x<;>simp
theorem Eg:∀ (xs ys:List D),cmA xs ys=true->∀ j,j < xs.length->j < ys.length->cmB (xs.getD j .non) (ys.getD j .non)=true
 | [],_,_,j,h,_=>by simp at h
 | _::_,[],_,j,_,h=>by simp at h
 | x::xs,y::ys,c,j,h1,h2=>by
  rw [cmA,and_eq_true] at c
  cases j with
  | zero=>exact c.1
  | succ j=>exact Eg xs ys c.2 j (by simpa using h1) (by simpa using h2)
section
variable {X:Cx}{aa:List (Addr×Obj)}{U:L2.St}{H:Hp}{s:Shared}
open PySem.SeqAt in
theorem Mh (I:Inv X aa U H s):∀ (n:Nat) (A:Around),A.units+n < cLine->∀ (a b:D) (x y:V) (u v:Value),dep a<=n->cmB a b=true->Is X.K H a x->Is X.K H b y->RelV x u->RelV y v->RcLtAt A s u v (dl a b):=by
 intro n
 induction n with
 | zero =>
  intro A hu a b x y u v hd c ha hb ru rv
  cases a<;>cases b<;>simp [cmB] at c
  ·rename_i i j
   rw [sV ha] at ru
   rw [sV hb] at rv
   obtain ⟨t1,rfl⟩:=ru
   obtain ⟨t2,rfl⟩:=rv
   rw [u9]
   exact RcLtAt.int_int _ _ _ _
  ·rw [dep] at hd
   omega
 | succ n ih =>
  intro A hu a b x y u v hd c ha hb ru rv
  cases a<;>cases b<;>simp [cmB] at c
  ·rename_i i j
   rw [sV ha] at ru
   rw [sV hb] at rv
   obtain ⟨t1,rfl⟩:=ru
   obtain ⟨t2,rfl⟩:=rv
   rw [u9]
   exact RcLtAt.int_int _ _ _ _
  ·rename_i ds es
   have eT:A.in1.units+n < cLine:=by show A.units+1+n < cLine;omega
   obtain ⟨p,xs,rfl,h1,h2⟩:=sZ ha
   obtain ⟨q,ys,rfl,h3,h4⟩:=sZ hb
   cases ru;cases rv
   obtain ⟨ac,r1,t1,_⟩:=I.tuple h1
   obtain ⟨bu,r2,t2,_⟩:=I.tuple h3
   have l1:ac.toArray.size=ds.length:=by rw [size_toArray,← r1.length,h2.length]
   have l2:bu.toArray.size=es.length:=by rw [size_toArray,← r2.length,h4.length]
   have two:∀ j (g1:j < ac.toArray.size) (g2:j < bu.toArray.size),EqAt A.in1 s ac.toArray[j] bu.toArray[j] (deq (ds.getD j .non) (es.getD j .non))/\(deq (ds.getD j .non) (es.getD j .non)=false->RcLtAt A.in1 s ac.toArray[j] bu.toArray[j] (dl (ds.getD j .non) (es.getD j .non))):=λj g1 g2=>by
    obtain ⟨v1,q1,q2⟩:=h2.getU r1 g1
    obtain ⟨v2,q3,q4⟩:=h4.getU r2 g2
    have m1:ds.getD j .non∈ds:=by
     rw [getD_eq_getElem?_getD,getElem?_eq_getElem (by omega)]
     exact getElem_mem _
    have k1:=uC m1
    rw [dep] at hd
    exact ⟨(vq I n A.in1 eT _ _ _ _ _ _ (.inl (by omega)) q2 q4 q1 q3).2.1,λ_=>ih A.in1 eT _ _ _ _ _ _ (by omega) (Eg ds es c j (by omega) (by omega)) q2 q4 q1 q3⟩
   have R1:=RcLtAt.tuples (A:=A) t1 t2 (by omega) two
   rw [l1,l2,CT ds es c] at R1
   rw [wo]
   exact R1
end
end DL
namespace DL
open PySem PySem.W PySem.Spec PyProof.Rows L2
def leD (a b:D):Bool:=!dl b a
def sortD (ds:List D):List D:=ds.mergeSort leD
theorem GY (a b c:D) (h1:leD a b=true) (h2:leD b c=true):leD a c=true:=by
 unfold leD at *
 simp only [Bool.not_eq_true'] at *
 exact wF a b c h1 h2
theorem E7 (a b:D):(leD a b||leD b a)=true:=by
 unfold leD
 cases h:dl b a with
 | false=>rfl
 | true=>rw [CV b a h];rfl
theorem uX (ds:List D):(sortD ds).Perm ds:=List.mergeSort_perm ds leD
theorem uD (ds:List D):(sortD ds).Pairwise λa b=>leD a b=true:=List.pairwise_mergeSort GY E7 ds
theorem xa:∀ (l m:List D),l.Perm m->(l.Pairwise λa b=>leD a b=true)->(m.Pairwise λa b=>leD a b=true)->(∀ a∈l,∀ b∈l,leD a b=true->leD b a=true->a=b)->l=m
 | [],m,p,_,_,_=>by rw [List.nil_perm.mp p]
 | a::l,[],p,_,_,_=>by have:=p.length_eq;simp at this
 | a::l,b::m,p,h1,h2,an=>by
  have e:a=b:=by
   have ia:a∈b::m:=p.mem_iff.mp mem_cons_self
   have ib:b∈a::l:=p.mem_iff.mpr mem_cons_self
   rcases mem_cons.mp ia with h | h
   ·exact h
   ·rcases mem_cons.mp ib with h' | h'
    ·exact h'.symm
    ·exact an a mem_cons_self b ib ((pairwise_cons.mp h1).1 b h') ((pairwise_cons.mp h2).1 a h)
  subst e
  rw [xa l m ((List.perm_cons a).mp p) (pairwise_cons.mp h1).2 (pairwise_cons.mp h2).2 λx hx y hy=>an x (mem_cons_of_mem _ hx) y (mem_cons_of_mem _ hy)]
noncomputable def permD (p:Array Nat) (ds:List D):List D:=p.toList.map λi=>ds.getD i .non
noncomputable def permV (p:Array Nat) (zs:List V):List V:=p.toList.map λi=>zs.getD i .non
noncomputable def cmAll (ds:List D):Bool:=ds.all λa=>ds.all λb=>cmB a b
theorem FS {ds:List D}{p:Array Nat} (hp:Pm ds.length p) (up:Up (λi j=>dl (ds.getD i .non) (ds.getD j .non)) p ds.length) (cm:cmAll ds=true):permD p ds=sortD ds:=by
 have pm:(permD p ds).Perm ds:=by
  have h1:p.toList.Perm (range ds.length):=by
   have:=Array.perm_iff_toList_perm.mp hp
   simpa using this
  have h2:=h1.map λi=>ds.getD i .non
  have h3:((range ds.length).map λi=>ds.getD i .non)=ds:=by
   refine List.ext_getElem (by simp) λi h1 h2=>?_
   simp [h2]
  rw [h3] at h2
  exact h2
 have iM:∀ a∈permD p ds,∀ b∈permD p ds,cmB a b=true:=λa ha b hb=>by
  have:=all_eq_true.mp cm a (pm.mem_iff.mp ha)
  exact all_eq_true.mp this b (pm.mem_iff.mp hb)
 refine xa _ _ (pm.trans (uX ds).symm) ?_ (uD ds) λa ha b hb h1 h2=>?_
 ·rw [List.pairwise_iff_getElem]
  intro i j hi hj df
  unfold permD at hi hj ⊢
  rw [length_map,length_toList,hp.size] at hi hj
  have:=up i j df hj
  simp only [getElem_map,Array.getElem_toList]
  unfold gt at this
  rw [getD,dif_pos (by rw [hp.size];exact hj),getD,dif_pos (by rw [hp.size];exact hi)] at this
  unfold leD
  rw [Bool.not_eq_true']
  exact this
 ·have c:=iM a ha b hb
  refine wM a b c ?_
  rw [vP a b c]
  unfold leD at h1 h2
  rw [h1,h2]
  rfl
section
variable {X:Cx}{aa:List (Addr×Obj)}{U:L2.St}{H:Hp}{s:Shared}{A:Around}
def fstI:D->Bool
 | .tup (.int _::_)=>true
 | _=>false
def fstT:D->Bool
 | .tup (.tup _::_)=>true
 | _=>false
def isInt:D->Bool
 | .int _=>true
 | _=>false
theorem CK (I:Inv X aa U H s){prog:Program}{w:World}{n:Nat}{b fin:Bool}{Q:Bool->Shared->Prop} (hu:A.units+n < cLine):∀ (ds es:List D) (xs ys:List V) (us vs:List Value) (i:Nat),IsA X.K H ds xs->IsA X.K H es ys->Vals xs us->Vals ys vs →
  depA ds<=n->cmA ds es=true->fin=decide (ds.length < es.length)->(b=true->i=0->∀ d e r r',ds=d::r->es=e::r'->isInt d=true/\isInt e=true)->Q (dlA ds es) s->KatLex prog w A b fin Q (us.zip vs) i s
 | [],es,xs,ys,us,vs,i,h1,h2,h3,h4,hd,c,hf,fl,q=>by
  have:=h1.nil_inv;subst this
  cases h3
  rw [List.zip_nil_left]
  refine kat_nil ?_
  rw [hf]
  cases es with
  | nil=>rw [yd] at q;exact q
  | cons e es=>rw [vN] at q;simpa using q
 | d::ds,[],xs,ys,us,vs,i,h1,h2,h3,h4,hd,c,hf,fl,q=>by
  have:=h2.nil_inv;subst this
  cases h4
  rw [List.zip_nil_right]
  refine kat_nil ?_
  rw [hf]
  rw [wD] at q
  simpa using q
 | d::ds,e::es,xs,ys,us,vs,i,h1,h2,h3,h4,hd,c,hf,fl,q=>by
  obtain ⟨x,xr,rfl,a1,a2⟩:=h1.cons_inv
  obtain ⟨y,yr,rfl,b1,b2⟩:=h2.cons_inv
  cases h3 with
  | cons r1 r2 =>
   cases h4 with
   | cons s1 s2 =>
    rename_i u pi v gK
    rw [depA] at hd
    rw [cmA,and_eq_true] at c
    rw [v7] at q
    have eq:=(vq I n A hu d e x y u v (.inl (by omega)) a1 b1 r1 s1).2.1
    have lt:=Mh I n A hu d e x y u v (by omega) c.1 a1 b1 r1 s1
    have ed:=vP d e c.1
    rw [zip_cons_cons]
    refine kat_cons (eq prog w _ _ (kat_go (λh=>kat_yes ?_) λh=>kat_no ?_))
    ·refine CK I hu ds es xr yr pi gK (i+1) a2 b2 r2 s2 (by omega) c.2 (by rw [hf];simp) (λ_ z=>by omega) ?_
     rw [h] at ed
     have ed:=ed.symm
     simp only [and_eq_true,Bool.not_eq_true'] at ed
     rw [ed.1,ed.2] at q
     simpa using q
    ·have q':Q (dl d e) s:=by
      rw [h] at ed
      cases h1:dl d e with
      | true=>rw [h1] at q;simpa using q
      | false =>
       rw [h1] at ed q
       cases h2:dl e d with
       | true=>rw [h2] at q;simpa using q
       | false=>rw [h2] at ed;cases ed
     by_cases z:b=true/\i=0
     ·obtain ⟨zb,zi⟩:=z
      obtain ⟨f1,f2⟩:=fl zb zi d e ds es rfl rfl
      subst zb;subst zi
      cases d<;>simp [isInt] at f1
      cases e<;>simp [isInt] at f2
      rw [sV a1] at r1
      rw [sV b1] at s1
      obtain ⟨t1,rfl⟩:=r1
      obtain ⟨t2,rfl⟩:=s1
      show wpAny _ _ (oneLt' true _ _) _ _ _
      rw [← keyLt'_oneType]
      rw [u9] at q'
      exact kat_lt_int q'
     ·have:(b&&i == 0)=false:=by
       cases b
       ·rfl
       ·simp at z ⊢
        exact z
      rw [this]
      exact kat_one _ _ (lt prog w _ _ q')
theorem at_k {ds:List D}{zs:List V}{vs:List Value} (h:IsA X.K H ds zs) (r:Vals zs vs){k:Nat} (hk:k < vs.length):∃ x,Is X.K H (ds.getD k .non) x/\RelV x (vs.getD k .none)/\ds.getD k .non∈ds/\zs[k]?=some x:=by
 have l1:=h.length
 have l2:=r.length
 have kA:k < ds.length:=by omega
 obtain ⟨x,e1,e2⟩:=h.get (getElem?_eq_getElem kA)
 obtain ⟨u,e3,e4⟩:=r.get e1
 refine ⟨x,?_,?_,?_,e1⟩
 ·rw [getD_eq_getElem?_getD,getElem?_eq_getElem kA];exact e2
 ·rw [getD_eq_getElem?_getD,e3];exact e4
 ·rw [getD_eq_getElem?_getD,getElem?_eq_getElem kA];exact getElem_mem _
theorem Ar (I:Inv X aa U H s) (prog:Program) (w:World) (P:D->Bool) (T:Value) (hP:∀ d,P d=true->∃ f r,d=.tup (f::r)/\∀ x u,Is X.K H f x->RelV x u->Looks (model prog w) s.heap (typeOf u) T) :
  ∀ (ds:List D) (zs:List V) (vs:List Value),IsA X.K H ds zs->Vals zs vs->ds.all P=true->∃ fs,KatTups s.heap vs fs/\fs.length=vs.length/\∀ v∈fs,Looks (model prog w) s.heap (typeOf v) T
 | [],zs,vs,h,r,_=>by
  have:=h.nil_inv;subst this
  cases r
  exact ⟨[],KatTups.nil,rfl,λv hv=>nomatch hv⟩
 | d::ds,zs,vs,h,r,ok=>by
  obtain ⟨x,zr,rfl,h1,h2⟩:=h.cons_inv
  rw [all_cons,and_eq_true] at ok
  cases r with
  | cons r1 r2 =>
   obtain ⟨fs,k1,k2,k3⟩:=Ar I prog w P T hP ds zr _ h2 r2 ok.2
   obtain ⟨f,am,rfl,look⟩:=hP d ok.1
   obtain ⟨a,ys,rfl,g1,g2⟩:=sZ h1
   cases r1
   obtain ⟨ac,q1,q2,_⟩:=I.tuple g1
   obtain ⟨y,yr,rfl,g3,g4⟩:=g2.cons_inv
   cases q1 with
   | cons q3 q4 =>
    obtain ⟨o,e1,e2,n,e3⟩:=q2
    refine ⟨_::fs,KatTups.cons e1 e2 e3 rfl k1,by simp [k2],λv hv=>?_⟩
    rcases mem_cons.mp hv with rfl | hv
    ·exact look y _ g3 q3
    ·exact k3 v hv
def SortOk (ds:List D):Prop:=ds.length < 64/\cmAll ds=true/\depA ds<=50/\(ds.all isInt=true\/ds.all fstI=true\/ds.all fstT=true)
theorem Dz (hu:X.A.units+100 < cLine){l:Addr}{ds:List D}{zs:List V}{ac:List Value}{Q:VK} (I:Inv X aa U H s) (ha:IsA X.K H ds zs) (rv:Vals zs ac) (ok:SortOk ds)
  (col:∀ Q':List Value->Shared->Prop,(∀ h' tk,(∀ b o,s.heap.get? b=some o->h'.get? b=some o)->s.heap.objs.size<=h'.objs.size->Q' ac { s with heap:=h',toks:=tk })->wpAny (model X.prog X.w) X.A.in1 (collect (.ref l)) Q' X.xe s)
  (k:∀ l q,Pm ds.length q->permD q ds=sortD ds->H l=none->Q (.ref l) (upd H l (.lst (permV q zs)))):wpAny (model X.prog X.w) X.A (call (.builtin "sorted") [.ref l]) (EP X aa U Q) X.xe s:=by
 obtain ⟨iL,cm,dp,kd⟩:=ok
 have l1:=ha.length
 have l2:=rv.length
 have n1:ac.length=ds.length:=by omega
 have mF:∀ i j,i < ac.length->j < ac.length->cmB (ds.getD i .non) (ds.getD j .non)=true:=λi j hi hj=>by
  obtain ⟨_,_,_,mi,_⟩:=at_k ha rv hi
  obtain ⟨_,_,_,mj,_⟩:=at_k ha rv hj
  exact all_eq_true.mp (all_eq_true.mp cm _ mi) _ mj
 have aL:∀ q h' tk D c,Pm ac.length q->Up (λi j=>dl (ds.getD i .non) (ds.getD j .non)) q ac.length->(∀ b o,s.heap.get? b=some o->h'.get? b=some o)->s.heap.objs.size<=D->h'.get? D=some (seqObj "list" (byP ac q).toArray c)->EP X aa U Q (.ref D) { s with heap:=h',toks:=tk }:=λq h' tk D c hp up keep above here=>by
  rw [n1] at hp up
  have hv:Vals (permV q zs) (byP ac q):=by
   refine xx (by simp [permV,byP]) λi x u e1 e2=>?_
   obtain ⟨j,f1,rfl⟩:=getMap e1
   obtain ⟨j',f2,rfl⟩:=getMap e2
   rw [f1] at f2
   cases f2
   have hj:j < ds.length:=by
    have h1:j∈q.toList:=mem_of_getElem? f1
    have h2:=(Array.perm_iff_toList_perm.mp hp).mem_iff.mp h1
    simpa using h2
   obtain ⟨x,_,e4,_,e5⟩:=at_k ha rv (k:=j) (by omega)
   rw [getD_eq_getElem?_getD,e5]
   exact e4
  refine ⟨.ref D,_,I.laid (t':=tk) keep above (o:=.lst (permV q zs)) ⟨?_,byP ac q,c,hv,here⟩,rfl,k D q hp (FS hp up cm) (I.hok.fresh above)⟩
  show (permV q zs).length<=sizeLine
  rw [permV,length_map,length_toList,hp.size,sizeLine_eq]
  omega
 have gP:∀ (b:Bool) (P:D->Bool),(∀ d,P d=true->∃ f r,d=.tup (f::r)/\(b=true->isInt f=true))->ds.all P=true->∀ h' tk i j C,(∀ b o,s.heap.get? b=some o->h'.get? b=some o)->i < ac.length->j < ac.length->C (dl (ds.getD i .non) (ds.getD j .non)) { s with heap:=h',toks:=tk } →
   wpAny (model X.prog X.w) X.A.in1.in1 (keyLt' (tuples' b) (ac.getD i Value.none) (ac.getD j Value.none)) C (λ_ _=>False) { s with heap:=h',toks:=tk }:=λb P hP all h' tk i j C keep hi hj hc=>by
  have I':Inv X aa U H { s with heap:=h',toks:=tk }:=I.kept (t':=tk) keep
  obtain ⟨x,a1,a2,a3,_⟩:=at_k ha rv hi
  obtain ⟨y,b1,b2,b3,_⟩:=at_k ha rv hj
  have cc:=mF i j hi hj
  have dq:=uC a3
  obtain ⟨f1,r1,e1,g1⟩:=hP _ (all_eq_true.mp all _ a3)
  obtain ⟨f2,r2,e2,g2⟩:=hP _ (all_eq_true.mp all _ b3)
  rw [e1] at a1 cc hc dq
  rw [e2] at b1 cc hc
  obtain ⟨pa,xs,rfl,x1,x2⟩:=sZ a1
  obtain ⟨pb,ys,rfl,y1,y2⟩:=sZ b1
  generalize ac.getD i Value.none=ui at a2
  generalize ac.getD j Value.none=uj at b2
  cases a2;cases b2
  obtain ⟨us,q1,q2,_⟩:=I'.tuple x1
  obtain ⟨vs,q3,q4,_⟩:=I'.tuple y1
  obtain ⟨oa,m1,m2,na,m3⟩:=q2
  obtain ⟨ob,m4,m5,nb,m6⟩:=q4
  rw [wo] at hc
  rw [cmB] at cc
  rw [dep] at dq
  refine kat_lt m1 m3 m4 m6 (CK I' (n:=50) (by show X.A.units+1+1+50 < cLine;omega) _ _ xs ys _ _ 0 x2 y2 q1 q3 (by omega) cc ?_ (λzb _ d e rr rR z1 z2=>?_) hc)
  ·have:=x2.length;have:=y2.length;have:=q1.length;have:=q3.length
   simp only [size_toArray]
   congr 1
   apply propext
   constructor<;>intro _<;>omega
  ·cases z1;cases z2
   exact ⟨g1 zb,g2 zb⟩
 rcases kd with kd | kd | kd
 ·-- bL numbers
  have kB:∀ k,k < ac.length->∃ i t,ac.getD k Value.none=.int i t/\ds.getD k .non=.int i:=λk hk=>by
   obtain ⟨x,a1,a2,a3,_⟩:=at_k ha rv hk
   have:=all_eq_true.mp kd _ a3
   cases e:ds.getD k .non<;>rw [e] at this a1<;>simp [isInt] at this
   rw [sV a1] at a2
   obtain ⟨t,a2⟩:=a2
   exact ⟨_,t,a2,rfl⟩
  refine zy (κ:=oneType') (lt:=λi j=>dl (ds.getD i .non) (ds.getD j .non)) (by omega) (yz ds) col (λh' tk Q' keep two q=>?_) (λh' tk i j C keep hi hj hc=>?_) aL
  ·refine kas_kind (T:=.type "int") two (λv hv=>?_) (by decide) (by decide) q
   obtain ⟨k,hk,rfl⟩:=getElem_of_mem hv
   obtain ⟨i,t,e,_⟩:=kB k hk
   rw [getD_eq_getElem?_getD,getElem?_eq_getElem hk] at e
   change ac[k]=_ at e
   rw [e]
   exact Looks.now
  ·obtain ⟨a,t1,e1,f1⟩:=kB i hi
   obtain ⟨b,t2,e2,f2⟩:=kB j hj
   rw [f1,f2,u9] at hc
   rw [e1,e2]
   exact kat_lt_int hc
 ·-- tuples that begin with a bL number
  refine zy (κ:=tuples' true) (lt:=λi j=>dl (ds.getD i .non) (ds.getD j .non)) (by omega) (yz ds) col (λh' tk Q' keep two q=>?_) (λh' tk i j C keep hi hj hc=>gP true fstI (λd hd=>?_) kd h' tk i j C keep hi hj hc) aL
  ·have I':Inv X aa U H { s with heap:=h',toks:=tk }:=I.kept (t':=tk) keep
   obtain ⟨fs,k1,k2,k3⟩:=Ar I' X.prog X.w fstI (.type "int") (λd hd=>by
    unfold fstI at hd
    split at hd
    ·refine ⟨_,_,rfl,λx u hx hr=>?_⟩
     rw [sV hx] at hr
     obtain ⟨t,rfl⟩:=hr
     exact Looks.now
    ·cases hd) ds zs ac ha rv kd
   exact kat_kind k1 (by omega) k3 (by decide) q
  ·unfold fstI at hd
   split at hd
   ·exact ⟨_,_,rfl,λ_=>rfl⟩
   ·cases hd
 ·-- tuples that begin with a tuple
  refine zy (κ:=tuples' false) (lt:=λi j=>dl (ds.getD i .non) (ds.getD j .non)) (by omega) (yz ds) col (λh' tk Q' keep two q=>?_) (λh' tk i j C keep hi hj hc=>gP false fstT (λd hd=>?_) kd h' tk i j C keep hi hj hc) aL
  ·have I':Inv X aa U H { s with heap:=h',toks:=tk }:=I.kept (t':=tk) keep
   obtain ⟨fs,k1,k2,k3⟩:=Ar I' X.prog X.w fstT (.type "tuple") (λd hd=>by
    unfold fstT at hd
    split at hd
    ·refine ⟨_,_,rfl,λx u hx hr=>?_⟩
     obtain ⟨a,ys,rfl,g1,g2⟩:=sZ hx
     cases hr
     obtain ⟨bu,q1,q2,_⟩:=I'.tuple g1
     obtain ⟨o,e1,e2,n,e3⟩:=q2
     have look:Looks (model X.prog X.w) h' (typeOf (.ref a)) o.cls:=(Looks.ld e1).andThen .now
     rw [e2] at look
     exact look
    ·cases hd) ds zs ac ha rv kd
   exact kat_kind k1 (by omega) k3 (by decide) q
  ·unfold fstT at hd
   split at hd
   ·exact ⟨_,_,rfl,λh=>by cases h⟩
   ·cases hd
theorem FH (hu:X.A.units+100 < cLine):CallR X (.builtin "sorted") (λxs H Q=>∃ (p:Addr) (zs:List V) (ds:List D),xs=[.ref p]/\SqL X.K H p zs/\IsA X.K H ds zs/\SortOk ds/\∀ l q,Pm ds.length q->permD q ds=sortD ds->H l=none->Q (.ref l) (upd H l (.lst (permV q zs)))):=by
 intro aa s U H xs us Q I r h
 obtain ⟨p,zs,ds,rfl,hq,ha,ok,k⟩:=h
 obtain ⟨u,rfl,ru⟩:=vals1 r
 cases ru
 obtain ⟨ac,rv,t,hz⟩:=I.list hq
 have l1:=ha.length
 have l2:=rv.length
 have line:64<=sizeLine:=by rw [sizeLine_eq];decide
 refine Dz hu I ha rv ok (λQ' q=>collect_list t.isList (q _ s.toks (λb o x=>?_) ?_) (by have:=ok.1;omega)) k
 ·exact (get?_update_other _ _ (Ne.symm (ne_of_lt (lt_size x)))).trans (get?_push_of_some _ x)
 ·rw [Heap.size_update,size_push']
  exact le_succ _
end
section
variable {X:Cx}{B:BB}{e:Expr}{pos:Pos}{kr:Nat}
noncomputable def sortF (ds:List D):Option (List D):=match ds with
 | [.lst xs]=>if xs.length < 64/\cmAll xs=true/\depA xs<=50/\(xs.all isInt=true\/xs.all fstI=true\/xs.all fstT=true) then some (sortD xs) else none
 | _=>none
theorem IsA.perm {K:PySem.W.Frag}{I:Hp}{ds:List D}{zs:List V}{q:Array Nat} (h:IsA K I ds zs) (hp:Pm ds.length q):IsA K I (permD q ds) (permV q zs):=by
 have low:∀ j∈q.toList,j < ds.length:=λj hj=>by
  have:=(Array.perm_iff_toList_perm.mp hp).mem_iff.mp hj
  simpa using this
 unfold permD permV
 clear hp
 generalize q.toList=js at low
 induction js with
 | nil=>exact IsA.nil
 | cons j js ih =>
  rw [map_cons,map_cons]
  refine IsA.cons ?_ (ih λi hi=>low i (mem_cons_of_mem _ hi))
  have hj:=low j mem_cons_self
  obtain ⟨x,e1,e2⟩:=h.get (getElem?_eq_getElem hj)
  rw [getD_eq_getElem?_getD,getD_eq_getElem?_getD,e1,getElem?_eq_getElem hj]
  exact e2
theorem yN {p:Pos}{t:M (List D)} (hr:Room kr X.A) (hg:Gl X "sorted") (hm:X.mg "sorted"=none) (ha:AD X B [e] t) (he:starEach [e] X.env=(false,eval e X.env)::starEach [] X.env:=by rfl) (az:(backTo pos (starEach [] X.env)).any (·.1)=false:=by rfl) :
  EO X B (.Call (.Name "sorted" p) [e] [] pos) (fn1 sortF t):=FU (FH (hu100 hr)) (λds d e B G I H U Y xs Q r h k=>by
 unfold sortF at e
 split at e
 ·obtain ⟨ok,rfl⟩:=tJ e
  obtain ⟨x,rfl,hx⟩:=h.one
  obtain ⟨q,zs,rfl,h3,h4⟩:=tm hx
  refine ⟨q,zs,_,rfl,(Same.rdK r.iH h3).sq,h4.mono r.iH,ok,λl q' hp es hl=>?_⟩
  refine k.new r hl ?_
  rw [← es]
  exact h4.perm hp
 ·cases e) hg hm boot_sorted ha (by decide) (by decide) he az
end
end DL
namespace DL
open PySem PySem.SetTable
def Ris (xs:Array Nat):Prop:=∀ i j (hi:i < xs.size) (hj:j < xs.size),i < j->xs[i] < xs[j]
theorem zz {xs:Array Nat} (R:Ris xs) (j:Nat):∀ (f lo hi:Nat),hi<=xs.size->lo<=hi->hi - lo<=f->(∀ i (h:i < xs.size),i < lo->xs[i] < j)->(∀ i (h:i < xs.size),hi<=i->j<=xs[i]) →
  (below.go xs j f lo hi<=xs.size/\(∀ i (h:i < xs.size),i < below.go xs j f lo hi->xs[i] < j)/\∀ i (h:i < xs.size),below.go xs j f lo hi<=i->j<=xs[i])
 | 0,lo,hi,h1,h2,h3,h4,h5=>by
  rw [below.go]
  exact ⟨by omega,h4,λi h x=>h5 i h (by omega)⟩
 | f+1,lo,hi,h1,h2,h3,h4,h5=>by
  rw [below.go]
  split
  ·have hm:(lo+hi) / 2 < xs.size:=by omega
   have e:xs.getD ((lo+hi) / 2) j=xs[(lo+hi) / 2]:=by rw [getD,dif_pos hm];rfl
   dsimp only
   rw [e]
   split
   ·rename_i lt
    refine zz R j f ((lo+hi) / 2+1) hi h1 (by omega) (by omega) (λi h x=>?_) h5
    by_cases z:i=(lo+hi) / 2
    ·subst z;exact lt
    ·exact Nat.lt_trans (R i _ h hm (by omega)) lt
   ·rename_i mG
    refine zz R j f lo ((lo+hi) / 2) (by omega) (by omega) (by omega) h4 λi h x=>?_
    by_cases z:i=(lo+hi) / 2
    ·subst z;omega
    ·have:=R _ i hm h (by omega);omega
  ·exact ⟨by omega,h4,λi h x=>h5 i h (by omega)⟩
theorem xP {xs:Array Nat} (R:Ris xs) (j:Nat):below xs j<=xs.size/\(∀ i (h:i < xs.size),i < below xs j->xs[i] < j)/\∀ i (h:i < xs.size),below xs j<=i->j<=xs[i] :=
 zz R j xs.size 0 xs.size (le_refl _) (zero_le _) (le_refl _) (λi h x=>by omega) λi h x=>by omega
theorem L3 {xs:Array Nat} (R:Ris xs){i:Nat} (h:i < xs.size):below xs xs[i]=i:=by
 obtain ⟨b1,b2,b3⟩:=xP R xs[i]
 rcases lt_trichotomy (below xs xs[i]) i with l | l | l
 ·have:=b3 (below xs xs[i]) (by omega) (le_refl _)
  have:=R _ i (by omega) h l
  omega
 ·exact l
 ·have:=b2 i h l
  omega
section
variable {t:SetTable}
theorem BV (R:Ris t.place){i:Nat} (h:i < t.place.size):t.slot t.place[i]=.live i:=by
 unfold slot
 dsimp only
 rw [L3 R h,Array.getElem?_eq_getElem h]
 simp
theorem Ij (R:Ris t.place) (hd:t.dummies=#[]){j:Nat} (h:j∉t.place):t.slot j=.empty:=by
 unfold slot
 dsimp only
 have e:¬ (t.place[below t.place j]? == some j)=true:=by
  intro z
  have z:t.place[below t.place j]?=some j:=by simpa using z
  exact h (Array.mem_of_getElem? z)
 rw [if_neg e]
 unfold has
 rw [hd]
 simp
def hd (m i p:Nat):Probe:=⟨i,runEnd m i - i,i,p,none⟩
noncomputable def adv (m:Nat) (p:Probe):Probe:=match p with
 | ⟨j,k+1,i,q,d⟩=>⟨j+1,k,i,q,d⟩
 | ⟨_,0,i,q,d⟩=>⟨(leap m i q).1,runEnd m (leap m i q).1 - (leap m i q).1,(leap m i q).1,(leap m i q).2,d⟩
noncomputable def pth (m:Nat) (h:Int):Nat->Probe
 | 0=>hd m (bits h % (m+1)) (bits h)
 | k+1=>adv m (pth m h k)
theorem En (h:Int) (k:Nat):t.advance (pth t.mask h k)=pth t.mask h (k+1):=by
 rw [pth]
 rcases pth t.mask h k with ⟨j,more,i,q,d⟩
 cases more<;>rfl
theorem Cz (m:Nat) (h:Int):∀ k,(pth m h k).dummy=none
 | 0=>rfl
 | k+1=>by
  have ih:=Cz m h k
  rw [pth]
  revert ih
  rcases pth m h k with ⟨j,more,i,q,d⟩
  intro ih
  cases more<;>exact ih
def sl (m:Nat) (h:Int) (k:Nat):Nat:=(pth m h k).j
theorem yk {m:Nat}{h:Int}{c i p:Nat} (e:pth m h c=hd m i p):∀ d,d<=runEnd m i - i->pth m h (c+d)=⟨i+d,runEnd m i - i - d,i,p,none⟩
 | 0,_=>e
 | d+1,bK=>by
  have ih:=yk e d (by omega)
  rw [← Nat.add_assoc,pth,ih]
  obtain ⟨k,hk⟩:∃ k,runEnd m i - i - d=k+1:=⟨runEnd m i - i - d - 1,by omega⟩
  rw [hk,show runEnd m i - i - (d+1)=k by omega]
  rfl
theorem Er {m:Nat}{h:Int}{c i p:Nat} (e:pth m h c=hd m i p):pth m h (c+(runEnd m i - i)+1)=hd m (leap m i p).1 (leap m i p).2:=by
 have:=yk e (runEnd m i - i) (le_refl _)
 rw [pth,this,Nat.sub_self]
 rfl
theorem Kj (m i:Nat):runEnd m i - i<=9:=by
 unfold runEnd
 split<;>omega
noncomputable def lp (m:Nat):Nat->Nat->Nat->Nat×Nat
 | 0,i,p=>(i,p)
 | n+1,i,p=>lp m n (leap m i p).1 (leap m i p).2
theorem Di {m:Nat}{h:Int}:∀ (n c i p:Nat),pth m h c=hd m i p->∃ c',c<=c'/\c'<=c+10*n/\pth m h c'=hd m (lp m n i p).1 (lp m n i p).2
 | 0,c,i,p,e=>⟨c,le_refl _,by omega,e⟩
 | n+1,c,i,p,e=>by
  obtain ⟨c',h1,h2,h3⟩:=Di n _ _ _ (Er e)
  have:=Kj m i
  exact ⟨c',by omega,by omega,h3⟩
theorem vV (m:Nat):∀ (a b i p:Nat),lp m (a+b) i p=lp m b (lp m a i p).1 (lp m a i p).2
 | 0,b,i,p=>by rw [zero_add];rfl
 | a+1,b,i,p=>by rw [Nat.succ_add,lp,vV m a b];rfl
theorem y9 (m:Nat):∀ (n i p:Nat),(lp m n i p).2=p / 32 ^ n
 | 0,i,p=>by simp [lp]
 | n+1,i,p=>by
  rw [lp,y9 m n]
  show (p / 32) / 32 ^ n=_
  rw [Nat.div_div_eq_div_mul,Nat.pow_succ,Nat.mul_comm]
theorem Dg {m:Nat}:∀ (n i p:Nat),i < m+1->(lp m n i p).1 < m+1
 | 0,i,p,h=>h
 | n+1,i,p,h=>by
  rw [lp]
  exact Dg n _ _ (mod_lt _ (succ_pos _))
theorem Ju (h:Int):bits h < 2 ^ 64:=by
 unfold bits
 have h1:=emod_lt_of_pos h (b:=2 ^ 64) (by decide)
 have h2:=emod_nonneg h (b:=2 ^ 64) (by decide)
 omega
def Round (m:Nat):Prop:=∀ i,i < m+1->∀ j,j < m+1->∃ n,n < m+1/\(lp m n i 0).1=j
theorem round7:Round 7:=by
 have:∀ i,i < 8->∀ j,j < 8->∃ n,n < 8/\(lp 7 n i 0).1=j:=by decide +kernel
 exact this
theorem round31:Round 31:=by
 have:∀ i,i < 32->∀ j,j < 32->∃ n,n < 32/\(lp 31 n i 0).1=j:=by decide +kernel
 exact this
theorem Dv {m:Nat} (R:Round m) (h:Int){j:Nat} (hj:j < m+1):∃ n,n < m+14/\(lp m n (bits h % (m+1)) (bits h)).1=j:=by
 have p0:(lp m 13 (bits h % (m+1)) (bits h)).2=0:=by
  rw [y9]
  refine Nat.div_eq_of_lt (lt_of_lt_of_le (Ju h) ?_)
  decide
 have l0:=Dg (m:=m) 13 (bits h % (m+1)) (bits h) (mod_lt _ (succ_pos _))
 obtain ⟨n,h1,h2⟩:=R _ l0 j hj
 refine ⟨13+n,by omega,?_⟩
 rw [vV,p0]
 exact h2
theorem JA {m:Nat} (R:Round m) (h:Int){j:Nat} (hj:j < m+1):∃ k,k < 10*(m+14)/\sl m h k=j:=by
 obtain ⟨n,h1,h2⟩:=Dv R h hj
 obtain ⟨c,h3,h4,h5⟩:=Di (m:=m) (h:=h) n 0 _ _ rfl
 refine ⟨c,by omega,?_⟩
 unfold sl
 rw [h5]
 exact h2
end
noncomputable def orb (m:Nat):Nat->Nat->List Nat
 | 0,_=>[]
 | k+1,i=>i::orb m k (leap m i 0).1
theorem FL (m i:Nat):(leap m i 0).2=0:=by
 show 0 / 32=0
 rfl
theorem FJ (m n i:Nat):lp m (n+1) i 0=lp m n (leap m i 0).1 0:=by
 rw [lp,FL]
theorem xS (m n i:Nat):(lp m n i 0).2=0:=by rw [y9];simp
theorem BY (m:Nat):∀ (k i n:Nat),n < k->(orb m k i)[n]?=some (lp m n i 0).1
 | 0,_,_,h=>by omega
 | k+1,i,0,_=>rfl
 | k+1,i,n+1,h=>by
  rw [orb,getElem?_cons_succ,BY m k _ n (by omega),FJ]
theorem Bo {m k i j:Nat} (h:j∈orb m k i) (hl:(orb m k i).length=k):∃ n,n < k/\(lp m n i 0).1=j:=by
 obtain ⟨n,hn,e⟩:=getElem_of_mem h
 refine ⟨n,by omega,?_⟩
 have:=BY m k i n (by omega)
 rw [getElem?_eq_getElem hn,e] at this
 exact (Option.some.inj this).symm
theorem AU (m:Nat):∀ (k i:Nat),(orb m k i).length=k
 | 0,_=>rfl
 | k+1,i=>by rw [orb,length_cons,AU m k]
theorem round127:Round 127:=by
 have all:∀ j,j < 128->∃ n,n < 128/\(lp 127 n 0 0).1=j:=λj hj=>by
  have c:∀ j,j < 128->j∈orb 127 128 0:=by decide +kernel
  exact Bo (c j hj) (AU _ _ _)
 have turn:(lp 127 128 0 0).1=0:=by decide +kernel
 intro i hi j hj
 obtain ⟨a,ha,ea⟩:=all i hi
 obtain ⟨b,hb,eb⟩:=all j hj
 have c6:∀ n,lp 127 n i 0=lp 127 (a+n) 0 0:=λn=>by rw [vV,ea,xS]
 rcases lt_or_ge b a with z | z
 ·refine ⟨b+128 - a,by omega,?_⟩
  rw [c6,show a+(b+128 - a)=128+b by omega,vV,turn,xS,eb]
 ·exact ⟨b - a,by omega,by rw [c6,show a+(b - a)=b by omega,eb]⟩
theorem round511:Round 511:=by
 have all:∀ j,j < 512->∃ n,n < 512/\(lp 511 n 0 0).1=j:=λj hj=>by
  have c:∀ j,j < 512->j∈orb 511 512 0:=by decide +kernel
  exact Bo (c j hj) (AU _ _ _)
 have turn:(lp 511 512 0 0).1=0:=by decide +kernel
 intro i hi j hj
 obtain ⟨a,ha,ea⟩:=all i hi
 obtain ⟨b,hb,eb⟩:=all j hj
 have c6:∀ n,lp 511 n i 0=lp 511 (a+n) 0 0:=λn=>by rw [vV,ea,xS]
 rcases lt_or_ge b a with z | z
 ·refine ⟨b+512 - a,by omega,?_⟩
  rw [c6,show a+(b+512 - a)=512+b by omega,vV,turn,xS,eb]
 ·exact ⟨b - a,by omega,by rw [c6,show a+(b - a)=b by omega,eb]⟩
noncomputable def hA (es:Array (Int×Value)) (i:Nat):Int:=(es[i]?.map (·.1)).getD 0
theorem BZ {es:Array (Int×Value)}{i:Nat} (h:i < es.size):hA es i=es[i].1:=by
 unfold hA
 rw [Array.getElem?_eq_getElem h]
 rfl
structure TabOk (t:SetTable) (es:Array (Int×Value)):Prop where
 nd:t.dummies=#[]
 ris:Ris t.place
 sz:t.place.size=es.size
 low:∀ i (h:i < t.place.size),t.place[i]<=t.mask
 few:t.place.size<=300/\(t.mask=511\/(t.mask=127/\t.place.size<=76)\/(t.mask=31/\t.place.size<=18)\/(t.mask=7/\t.place.size<=4))
 pl:t.plain=true
 reach:∀ i (h:i < es.size) (h':i < t.place.size),∃ k,sl t.mask es[i].1 k=t.place[i]/\∀ k',k' < k->sl t.mask es[i].1 k'∈t.place
theorem zq:∀ (n:Nat) (l:List Nat),(∀ j,j < n->j∈l)->n<=l.length
 | 0,_,_=>zero_le _
 | n+1,l,h=>by
  have:=zq n (l.erase n) λj hj=>(List.mem_erase_of_ne (by omega)).mpr (h j (by omega))
  rw [List.length_erase_of_mem (h n (by omega))] at this
  have:0 < l.length:=List.length_pos_of_mem (h n (by omega))
  omega
section
variable {t:SetTable}{es:Array (Int×Value)}
theorem TabOk.round (T:TabOk t es):Round t.mask:=by
 rcases T.few.2 with h | h | h | h
 ·rw [h];exact round511
 ·rw [h.1];exact round127
 ·rw [h.1];exact round31
 ·rw [h.1];exact round7
theorem TabOk.free (T:TabOk t es) (h:Int):∃ K,K < 10*(t.mask+14)/\sl t.mask h K∉t.place/\∀ k,k < K->sl t.mask h k∈t.place:=by
 have ex:∃ k,k < 10*(t.mask+14)/\sl t.mask h k∉t.place:=by
  apply byContradiction
  intro no
  have:t.mask+1<=t.place.toList.length:=zq (t.mask+1) _ λj hj=>by
   obtain ⟨k,k1,k2⟩:=JA T.round h hj
   apply byContradiction
   intro nj
   exact no ⟨k,k1,by rw [k2];simpa using nj⟩
  rw [length_toList] at this
  have:=T.few
  omega
 obtain ⟨k,k1,k2⟩:=ex
 induction k using Nat.strongRecOn with
 | ind k ih =>
  by_cases z:∃ k',k' < k/\sl t.mask h k'∉t.place
  ·obtain ⟨k',a,b⟩:=z
   exact ih k' a (by omega) b
  ·refine ⟨k,k1,k2,λk' bF=>?_⟩
   apply byContradiction
   intro nj
   exact z ⟨k',bF,nj⟩
theorem De {m i:Nat} (h:i<=m):i+(runEnd m i - i)<=m:=by
 unfold runEnd
 split<;>omega
theorem xM (m:Nat) (h:Int):∀ k,(pth m h k).j+(pth m h k).more<=m/\(pth m h k).i<=m
 | 0=>by
  have:bits h % (m+1)<=m:=Nat.le_of_lt_succ (mod_lt _ (succ_pos _))
  exact ⟨De this,this⟩
 | k+1=>by
  have ih:=xM m h k
  rw [pth]
  revert ih
  rcases pth m h k with ⟨j,more,i,q,d⟩
  intro ih
  cases more with
  | zero =>
   have:(leap m i q).1<=m:=Nat.le_of_lt_succ (mod_lt _ (succ_pos _))
   exact ⟨De this,this⟩
  | succ more =>
   dsimp only at ih
   exact ⟨by show j+1+more<=m;omega,ih.2⟩
theorem GZ {xs:Array Nat}{j:Nat} (h:j∈xs):∃ i,∃ h:i < xs.size,xs[i]=j:=by
 obtain ⟨i,hi,e⟩:=Array.getElem_of_mem h
 exact ⟨i,hi,e⟩
theorem Dc (T:TabOk t es){h:Int}{K:Nat} (hK:sl t.mask h K∉t.place) (hk:∀ k,k < K->sl t.mask h k∈t.place):∀ (f k:Nat),k<=K->K - k < f →
  (∃ k' i,∃ hi:i < es.size,∃ ba:i < t.place.size,k<=k'/\k' < K/\t.place[i]=sl t.mask h k'/\es[i].1=h/\probe.go t (hA es) h f (pth t.mask h k)=some (.candidate (sl t.mask h k') i (pth t.mask h (k'+1))) ∧
   ∀ bw,k<=bw->bw < k'->∀ j (hj:j < es.size) (br:j < t.place.size),t.place[j]=sl t.mask h bw->es[j].1≠h) ∨
  (probe.go t (hA es) h f (pth t.mask h k)=some (.empty (sl t.mask h K) none)/\∀ bw,k<=bw->bw < K->∀ j (hj:j < es.size) (br:j < t.place.size),t.place[j]=sl t.mask h bw->es[j].1≠h)
 | 0,k,h1,h2=>by omega
 | f+1,k,h1,h2=>by
  by_cases z:k=K
  ·subst z
   right
   refine ⟨?_,λbw a b=>by omega⟩
   rw [probe.go,show (pth t.mask h k).j=sl t.mask h k from rfl,Ij T.ris T.nd hK,Cz]
  ·obtain ⟨i,hi,e⟩:=GZ (hk k (by omega))
   have bQ:i < es.size:=by rw [← T.sz];exact hi
   have st:t.slot (pth t.mask h k).j=.live i:=by
    rw [show (pth t.mask h k).j=t.place[i] from e.symm]
    exact BV T.ris hi
   have only:∀ j (br:j < t.place.size),t.place[j]=sl t.mask h k->j=i:=λj br ej=>by
    rcases lt_trichotomy j i with l | l | l
    ·have:=T.ris j i br hi l;omega
    ·exact l
    ·have:=T.ris i j hi br l;omega
   by_cases same:es[i].1=h
   ·left
    refine ⟨k,i,bQ,hi,le_refl _,by omega,e,same,?_,λbw a b=>by omega⟩
    rw [probe.go,st]
    dsimp only
    rw [BZ bQ,same,if_pos (by simp),En]
    rfl
   ·have go:probe.go t (hA es) h (f+1) (pth t.mask h k)=probe.go t (hA es) h f (pth t.mask h (k+1)):=by
     rw [probe.go,st]
     dsimp only
     rw [BZ bQ,if_neg (by simpa using same),En]
    rw [go]
    have here:∀ j (hj:j < es.size) (br:j < t.place.size),t.place[j]=sl t.mask h k->es[j].1≠h:=λj hj br ej=>by
     have:=only j br ej
     subst this
     exact same
    rcases Dc T hK hk f (k+1) (by omega) (by omega) with ⟨k',i',a1,a2,a3,a4,a5,a6,a7,a8⟩ | ⟨a1,a2⟩
    ·refine .inl ⟨k',i',a1,a2,by omega,a4,a5,a6,a7,λbw b1 b2 j hj br ej=>?_⟩
     by_cases z':bw=k
     ·subst z';exact here j hj br ej
     ·exact a8 bw (by omega) b2 j hj br ej
    ·refine .inr ⟨a1,λbw b1 b2 j hj br ej=>?_⟩
     by_cases z':bw=k
     ·subst z';exact here j hj br ej
     ·exact a2 bw (by omega) b2 j hj br ej
theorem vG {α:Type}{xs:Array α}{p:Nat} (hp:p<=xs.size) (x:α) (i:Nat):(insertAt xs p x)[i]?=if i < p then xs[i]? else if i=p then some x else xs[i - 1]?:=by
 unfold insertAt
 rw [Array.getElem?_append,Array.size_push,size_extract]
 have e:min p xs.size - 0=p:=by omega
 rw [e]
 by_cases h1:i < p
 ·rw [if_pos (by omega),if_pos h1,Array.getElem?_push,size_extract,e,if_neg (by omega),Array.getElem?_extract,if_pos (by omega),zero_add]
 ·rw [if_neg h1]
  by_cases h2:i=p
  ·rw [if_pos (by omega),if_pos h2,Array.getElem?_push,size_extract,e,if_pos h2]
  ·rw [if_neg (by omega),if_neg h2,Array.getElem?_extract]
   by_cases h3:i - (p+1) < min xs.size xs.size - p
   ·rw [if_pos h3]
    congr 1
    omega
   ·rw [if_neg h3]
    symm
    rw [getElem?_eq_none]
    omega
theorem y4 {α:Type}{xs:Array α}{p:Nat} (hp:p<=xs.size) (x:α):(insertAt xs p x).size=xs.size+1:=by
 unfold insertAt
 rw [Array.size_append,Array.size_push,size_extract,size_extract]
 omega
theorem AX {α:Type}{xs:Array α}{p:Nat} (hp:p<=xs.size) (x y:α):y∈insertAt xs p x↔y=x\/y∈xs:=by
 constructor
 ·intro h
  obtain ⟨i,e⟩:=mem_iff_getElem?.mp h
  rw [vG hp] at e
  split at e
  ·exact .inr (Array.mem_of_getElem? e)
  ·split at e
   ·cases e;exact .inl rfl
   ·exact .inr (Array.mem_of_getElem? e)
 ·rintro (rfl | h)
  ·refine mem_iff_getElem?.mpr ⟨p,?_⟩
   rw [vG hp,if_neg (by omega),if_pos rfl]
  ·obtain ⟨i,e⟩:=mem_iff_getElem?.mp h
   by_cases z:i < p
   ·exact mem_iff_getElem?.mpr ⟨i,by rw [vG hp,if_pos z];exact e⟩
   ·exact mem_iff_getElem?.mpr ⟨i+1,by rw [vG hp,if_neg (by omega),if_neg (by omega)];exact e⟩
theorem J7 (T:TabOk t es){h:Int}{x:Value}{K:Nat} (hK:sl t.mask h K∉t.place) (hk:∀ k,k < K->sl t.mask h k∈t.place) :
  let q:=t.put (sl t.mask h K)
  q.1.dummies=#[]/\Ris q.1.place/\q.1.place.size=(insertAt es q.2 (h,x)).size/\(∀ i (h:i < q.1.place.size),q.1.place[i]<=q.1.mask)/\q.1.mask=t.mask/\q.1.plain=t.plain/\q.1.led=t.led/\q.1.moves=t.moves/\q.1.place.size=t.place.size+1/\q.2<=es.size ∧
   (∀ i (h1:i < (insertAt es q.2 (h,x)).size) (h2:i < q.1.place.size),∃ k,sl q.1.mask (insertAt es q.2 (h,x))[i].1 k=q.1.place[i]/\∀ k',k' < k->sl q.1.mask (insertAt es q.2 (h,x))[i].1 k'∈q.1.place):=by
 intro q
 obtain ⟨b1,b2,b3⟩:=xP T.ris (sl t.mask h K)
 have q2:q.2=below t.place (sl t.mask h K):=rfl
 have q1:q.1.place=insertAt t.place (below t.place (sl t.mask h K)) (sl t.mask h K):=rfl
 have hp:q.2<=es.size:=by rw [q2,← T.sz];exact b1
 have nh:has t.dummies (sl t.mask h K)=false:=by rw [T.nd];rfl
 have qd:q.1.dummies=#[]:=by
  show (if has t.dummies (sl t.mask h K)=true then _ else t.dummies)=_
  rw [nh,if_neg Bool.false_ne_true];exact T.nd
 have get:∀ i (h2:i < q.1.place.size),(i < q.2/\∃ hi:i < t.place.size,q.1.place[i]=t.place[i])\/(i=q.2/\q.1.place[i]=sl t.mask h K)\/(q.2 < i/\∃ hi:i - 1 < t.place.size,q.1.place[i]=t.place[i - 1]):=λi h2=>by
  have e:=vG (x:=sl t.mask h K) b1 i
  rw [← q1,← q2,Array.getElem?_eq_getElem h2] at e
  by_cases z1:i < q.2
  ·rw [if_pos z1] at e
   obtain ⟨hi,e⟩:=Array.getElem?_eq_some_iff.mp e.symm
   exact .inl ⟨z1,hi,e.symm⟩
  ·rw [if_neg z1] at e
   by_cases z2:i=q.2
   ·rw [if_pos z2] at e
    exact .inr (.inl ⟨z2,Option.some.inj e⟩)
   ·rw [if_neg z2] at e
    obtain ⟨hi,e⟩:=Array.getElem?_eq_some_iff.mp e.symm
    exact .inr (.inr ⟨by omega,hi,e.symm⟩)
 have sz:q.1.place.size=t.place.size+1:=by rw [q1];exact y4 b1 _
 have ne:∀ i (hi:i < t.place.size),t.place[i]≠sl t.mask h K:=λi hi z=>hK (by rw [← z];exact Array.getElem_mem hi)
 refine ⟨qd,?_,by rw [sz,y4 hp,T.sz],?_,rfl,rfl,rfl,rfl,sz,hp,?_⟩
 ·intro i j hi hj lt
  rcases get i hi with ⟨a1,a2,a3⟩ | ⟨a1,a3⟩ | ⟨a1,a2,a3⟩<;>rcases get j hj with ⟨c1,c2,c3⟩ | ⟨c1,c3⟩ | ⟨c1,c2,c3⟩
  ·rw [a3,c3];exact T.ris i j a2 c2 lt
  ·rw [a3,c3];exact b2 i a2 (by omega)
  ·rw [a3,c3]
   have:=b2 i a2 (by omega)
   have:=b3 (j - 1) c2 (by omega)
   omega
  ·omega
  ·omega
  ·rw [a3,c3]
   have:=b3 (j - 1) c2 (by omega)
   have:=ne (j - 1) c2
   omega
  ·omega
  ·omega
  ·rw [a3,c3];exact T.ris (i - 1) (j - 1) a2 c2 (by omega)
 ·intro i hi
  show _<=t.mask
  rcases get i hi with ⟨a1,a2,a3⟩ | ⟨a1,a3⟩ | ⟨a1,a2,a3⟩
  ·rw [a3];exact T.low _ _
  ·rw [a3];have:=(xM t.mask h K).1;unfold sl;omega
  ·rw [a3];exact T.low _ _
 ·intro i h1 h2
  have dk:∀ y,y∈t.place->y∈q.1.place:=λy hy=>by rw [q1];exact (AX b1 _ _).mpr (.inr hy)
  have e:=vG (x:=(h,x)) hp i
  rw [Array.getElem?_eq_getElem h1] at e
  show ∃ k,sl t.mask _ k=_/\∀ k',k' < k->sl t.mask _ k'∈_
  rcases get i h2 with ⟨a1,a2,a3⟩ | ⟨a1,a3⟩ | ⟨a1,a2,a3⟩
  ·rw [if_pos a1] at e
   obtain ⟨hi,e⟩:=Array.getElem?_eq_some_iff.mp e.symm
   obtain ⟨k,k1,k2⟩:=T.reach i hi a2
   rw [← e,a3]
   exact ⟨k,k1,λk' bF=>dk _ (k2 k' bF)⟩
  ·rw [if_neg (by omega),if_pos a1] at e
   rw [Option.some.inj e,a3]
   exact ⟨K,rfl,λk' bF=>dk _ (hk k' bF)⟩
  ·rw [if_neg (by omega),if_neg (by omega)] at e
   obtain ⟨hi,e⟩:=Array.getElem?_eq_some_iff.mp e.symm
   obtain ⟨k,k1,k2⟩:=T.reach (i - 1) hi a2
   rw [← e,a3]
   exact ⟨k,k1,λk' bF=>dk _ (k2 k' bF)⟩
end
noncomputable def tak (o:Array (Option Nat)) (j:Nat):Bool:=(o.getD j (some 0)).isSome
theorem CA {m:Nat}{o:Array (Option Nat)}{h:Int}:∀ (f c i p:Nat),pth m h c=hd m i p →
  (∃ k,c<=k/\layClean.free m o f i p=some (sl m h k)/\tak o (sl m h k)=false/\∀ k',c<=k'->k' < k->tak o (sl m h k')=true)\/(∀ n,n < f->tak o (lp m n i p).1=true)
 | 0,c,i,p,e=>.inr λn h=>by omega
 | f+1,c,i,p,e=>by
  have run:=λd bK=>yk e d bK
  have bj:∀ d,d<=runEnd m i - i->sl m h (c+d)=i+d:=λd bK=>by unfold sl;rw [run d bK]
  have up:i<=runEnd m i:=by unfold runEnd;split<;>omega
  rw [layClean.free]
  cases hf:(range (runEnd m i+1 - i)).find? λk=>(o.getD (i+k) (some 0)).isNone with
  | some d =>
   obtain ⟨d1,d2,d3⟩:=List.find?_range_eq_some.mp hf
   rw [mem_range] at d2
   left
   refine ⟨c+d,by omega,?_,?_,λk' a b=>?_⟩
   ·dsimp only
    rw [bj d (by omega)]
   ·rw [bj d (by omega)]
    unfold tak
    cases x:o.getD (i+d) (some 0) with
    | none=>rfl
    | some v=>rw [x] at d1;cases d1
   ·obtain ⟨d',rfl⟩:∃ d',k'=c+d':=⟨k' - c,by omega⟩
    rw [bj d' (by omega)]
    have:=d3 d' (by omega)
    unfold tak
    cases x:o.getD (i+d') (some 0) with
    | none=>rw [x] at this;cases this
    | some v=>rfl
  | none =>
   have no:=List.find?_range_eq_none.mp hf
   have all:∀ k',c<=k'->k' < c+(runEnd m i - i)+1->tak o (sl m h k')=true:=λk' a b=>by
    obtain ⟨d',rfl⟩:∃ d',k'=c+d':=⟨k' - c,by omega⟩
    rw [bj d' (by omega)]
    have:=no d' (by omega)
    unfold tak
    cases x:o.getD (i+d') (some 0) with
    | none=>rw [x] at this;cases this
    | some v=>rfl
   dsimp only
   rcases CA (o:=o) f _ _ _ (Er e) with ⟨k,k1,k2,k3,k4⟩ | am
   ·left
    refine ⟨k,by omega,k2,k3,λk' a b=>?_⟩
    by_cases z:k' < c+(runEnd m i - i)+1
    ·exact all k' a z
    ·exact k4 k' (by omega) b
   ·right
    intro n hn
    cases n with
    | zero =>
     have:=all c (le_refl _) (by omega)
     rw [← Nat.add_zero c,bj 0 (by omega)] at this
     exact this
    | succ n =>
     rw [lp]
     exact am n (by omega)
theorem wX:∀ (k:Nat) (l:List Nat),l.Nodup->(∀ x∈l,x < k)->l.length<=k
 | 0,l,_,h=>by
  cases l with
  | nil=>exact le_refl _
  | cons x l=>exact absurd (h x mem_cons_self) (not_lt_zero _)
 | k+1,l,nd,h=>by
  by_cases z:k∈l
  ·have:=wX k (l.erase k) (nd.erase k) λx hx=>by
    have h1:=h x (List.mem_of_mem_erase hx)
    have h2:x≠k:=λe=>by
     subst e
     exact (List.Nodup.not_mem_erase nd) hx
    omega
   rw [List.length_erase_of_mem z] at this
   omega
  ·have:=wX k l nd λx hx=>by
    have h1:=h x hx
    have h2:x≠k:=λe=>z (e▸hx)
    omega
   omega
structure Laid (m:Nat) (hs:List Int) (o:Array (Option Nat)) (k:Nat):Prop where
 sz:o.size=m+1
 old:∀ (j v:Nat),o[j]?=some (some v)->v < k
 one:∀ (j j' v:Nat),o[j]?=some (some v)->o[j']?=some (some v)->j=j'
 way:∀ (v:Nat),v < k->∃ (j c:Nat),o[j]?=some (some v)/\sl m (hs.getD v 0) c=j/\∀ c',c' < c->tak o (sl m (hs.getD v 0) c')=true
theorem Laid.room {m:Nat}{hs:List Int}{o:Array (Option Nat)}{k:Nat} (L:Laid m hs o k) (hk:k<=m):∃ j,j < m+1/\tak o j=false:=by
 apply byContradiction
 intro no
 have all:∀ j,j < m+1->∃ v,o[j]?=some (some v):=λj hj=>by
  have t:tak o j=true:=by
   cases x:tak o j with
   | true=>rfl
   | false=>exact absurd ⟨j,hj,x⟩ no
  unfold tak at t
  rw [getD,dif_pos (by rw [L.sz];exact hj)] at t
  rw [Array.getElem?_eq_getElem (by rw [L.sz];exact hj)]
  cases x:o[j]'(by rw [L.sz];exact hj) with
  | none=>simp [x] at t
  | some v=>exact ⟨v,rfl⟩
 have nd:((range (m+1)).map λj=>((o[j]?).bind id).getD 0).Nodup:=by
  unfold List.Nodup
  rw [List.pairwise_map]
  refine imp_of_mem ?_ List.nodup_range
  intro a b ha hb ne e
  obtain ⟨v,hv⟩:=all a (mem_range.mp ha)
  obtain ⟨v',cF⟩:=all b (mem_range.mp hb)
  rw [hv,cF] at e
  have e:v=v':=e
  subst e
  exact ne (L.one a b v hv cF)
 have:=wX k _ nd λx hx=>by
  obtain ⟨j,hj,rfl⟩:=mem_map.mp hx
  obtain ⟨v,hv⟩:=all j (mem_range.mp hj)
  rw [hv]
  exact L.old j v hv
 rw [length_map,length_range] at this
 omega
theorem Laid.step {m:Nat} (R:Round m){hs:List Int}{o:Array (Option Nat)}{k:Nat} (L:Laid m hs o k) (hk:k<=m):∃ j,layClean.free m o (turns m) (bits (hs.getD k 0) % (m+1)) (bits (hs.getD k 0))=some j/\Laid m hs (o.setIfInBounds j (some k)) (k+1):=by
 rcases CA (m:=m) (o:=o) (h:=hs.getD k 0) (turns m) 0 _ _ rfl with ⟨K,_,k2,k3,k4⟩ | full
 ·refine ⟨_,k2,?_⟩
  have hj:sl m (hs.getD k 0) K < o.size:=by
   rw [L.sz]
   have:=(xM m (hs.getD k 0) K).1
   unfold sl
   omega
  have free:o[sl m (hs.getD k 0) K]?=some none:=by
   unfold tak at k3
   rw [getD_eq_getD_getElem?,Array.getElem?_eq_getElem hj] at k3
   rw [Array.getElem?_eq_getElem hj]
   cases x:o[sl m (hs.getD k 0) K] with
   | none=>rfl
   | some v=>rw [x] at k3;cases k3
  have get:∀ i,(o.setIfInBounds (sl m (hs.getD k 0) K) (some k))[i]?=if sl m (hs.getD k 0) K=i then some (some k) else o[i]?:=λi=>by
   rw [Array.getElem?_setIfInBounds]
   split
   ·rename_i e
    subst e
    simp [hj]
   ·rfl
  have more:∀ i,tak o i=true->tak (o.setIfInBounds (sl m (hs.getD k 0) K) (some k)) i=true:=λi hi=>by
   unfold tak at hi ⊢
   rw [getD_eq_getD_getElem?] at hi ⊢
   rw [get]
   split
   ·rfl
   ·exact hi
  refine ⟨by rw [Array.size_setIfInBounds];exact L.sz,λj v e=>?_,λj j' v e e'=>?_,λv hv=>?_⟩
  ·rw [get] at e
   split at e
   ·cases e;omega
   ·have:=L.old j v e;omega
  ·rw [get] at e e'
   split at e
   ·cases e
    split at e'
    ·omega
    ·have:=L.old j' k e';omega
   ·split at e'
    ·cases e'
     have:=L.old j k e;omega
    ·exact L.one j j' v e e'
  ·by_cases z:v=k
   ·subst z
    exact ⟨_,K,by rw [get,if_pos rfl],rfl,λc' aK=>more _ (k4 c' (zero_le _) aK)⟩
   ·obtain ⟨j,c,e1,e2,e3⟩:=L.way v (by omega)
    refine ⟨j,c,?_,e2,λc' aK=>more _ (e3 c' aK)⟩
    rw [get,if_neg ?_]
    ·exact e1
    ·intro e
     subst e
     rw [free] at e1
     cases e1
 ·obtain ⟨j,hj,tj⟩:=L.room hk
  obtain ⟨n,n1,n2⟩:=Dv R (hs.getD k 0) hj
  have:=full n (by unfold turns;omega)
  rw [n2,tj] at this
  cases this
theorem IH {m:Nat} (R:Round m) (hs:List Int) (hm:hs.length<=m):∃ o,layClean m hs.toArray=some o/\Laid m hs o hs.length:=by
 unfold layClean
 rw [← Array.foldl_toList]
 have aQ:∀ (l pre:List Int) (o:Array (Option Nat)),hs=pre++l->Laid m hs o pre.length->∃ o',List.foldl (λae h=>do
   let (owner,k) ← ae
   let j ← layClean.free m owner (turns m) (bits h % (m+1)) (bits h)
   pure (owner.setIfInBounds j (some k),k+1)) (some (o,pre.length)) l=some (o',hs.length)/\Laid m hs o' hs.length:=by
  intro l
  induction l with
  | nil =>
   intro pre o e L
   rw [append_nil] at e
   subst e
   exact ⟨o,rfl,L⟩
  | cons h l ih =>
   intro pre o e L
   have gk:hs.getD pre.length 0=h:=by rw [e,getD_eq_getElem?_getD];simp
   have lk:pre.length<=m:=by
    have:=congrArg List.length e
    simp at this
    omega
   obtain ⟨j,j1,j2⟩:=L.step R lk
   rw [gk] at j1
   obtain ⟨o',h1,h2⟩:=ih (pre++[h]) (o.setIfInBounds j (some pre.length)) (by rw [e];simp) (by simpa using j2)
   refine ⟨o',?_,h2⟩
   rw [foldl_cons,← h1]
   congr 1
   show (layClean.free m o (turns m) (bits h % (m+1)) (bits h)).bind _=_
   rw [j1]
   simp
 have aU:∀ (j v:Nat),(Array.replicate (m+1) (none:Option Nat))[j]?=some (some v)->False:=λj v e=>by
  rw [Array.getElem?_replicate] at e
  split at e
  ·cases e
  ·cases e
 obtain ⟨o',h1,h2⟩:=aQ hs [] (Array.replicate (m+1) none) rfl ⟨by simp,λj v e=>(aU j v e).elim,λj j' v e=>(aU j v e).elim,λv hv=>absurd hv (not_lt_zero _)⟩
 exact ⟨o',by
  have:=congrArg (Option.map (·.1)) h1
  exact this,h2⟩
theorem Ls {es:Array (Int×Value)}{m:Nat} (R:Round m) (few:(m=31/\es.size<=18)\/(m=127/\es.size<=76)\/(m=511/\es.size<=300)) (finger moves:Nat) (led:Bool):∃ t bO,laid m finger moves led true (es.map (·.1))=some (t,bO)/\(bO.filterMap (es[·]?)).size=es.size/\TabOk t (bO.filterMap (es[·]?))/\t.mask=m/\t.led=led ∧
  (∀ x,x∈bO.filterMap (es[·]?)↔x∈es)/\bO.toList.Perm (range es.size):=by
 obtain ⟨o,h1,L⟩:=IH R (es.map (·.1)).toList (by simp;omega)
 rw [Array.toArray_toList] at h1
 have nl:(es.map (·.1)).toList.length=es.size:=by simp
 rw [nl] at L
 obtain ⟨live,dH⟩:∃ live:List (Nat×Nat),live=(range (m+1)).filterMap λj=>(o.getD j none).map (j,·):=⟨_,rfl⟩
 have mem:∀ j v,(j,v)∈live↔o[j]?=some (some v):=λj v=>by
  rw [dH,mem_filterMap]
  constructor
  ·rintro ⟨a,ha,e⟩
   rw [getD_eq_getD_getElem?] at e
   cases x:o[a]? with
   | none=>rw [x] at e;cases e
   | some w =>
    rw [x] at e
    cases w with
    | none=>cases e
    | some w=>cases e;exact x
  ·intro e
   have:=(Array.getElem?_eq_some_iff.mp e).1
   refine ⟨j,mem_range.mpr (by rw [L.sz] at this;exact this),?_⟩
   rw [getD_eq_getD_getElem?,e]
   rfl
 have ris:live.Pairwise λa b=>a.1 < b.1:=by
  rw [dH,List.pairwise_filterMap]
  refine List.Pairwise.imp ?_ List.pairwise_lt_range
  intro a b lt x hx y hy
  cases e:o.getD a none with
  | none=>rw [e] at hx;cases hx
  | some v =>
   rw [e] at hx
   cases hx
   cases e':o.getD b none with
   | none=>rw [e'] at hy;cases hy
   | some v'=>rw [e'] at hy;cases hy;exact lt
 have kC:(live.map (·.2)).Nodup:=by
  unfold List.Nodup
  rw [List.pairwise_map]
  refine imp_of_mem ?_ ris
  intro a b ha hb lt e
  have h1:=(mem a.1 a.2).mp ha
  have h2:=(mem b.1 b.2).mp hb
  rw [e] at h1
  have:=L.one _ _ _ h1 h2
  omega
 have lo:live.length=es.size:=by
  refine Nat.le_antisymm ?_ ?_
  ·have:=wX es.size (live.map (·.2)) kC λx hx=>by
    obtain ⟨q,hq,rfl⟩:=mem_map.mp hx
    exact L.old q.1 q.2 ((mem _ _).mp hq)
   simpa using this
  ·have:=zq es.size (live.map (·.2)) λv hv=>by
    obtain ⟨j,c,e,_⟩:=L.way v hv
    exact mem_map.mpr ⟨(j,v),(mem j v).mpr e,rfl⟩
   simpa using this
 have low:∀ q∈live,q.2 < es.size:=λq hq=>L.old q.1 q.2 ((mem _ _).mp hq)
 have aL:((live.map (·.2)).toArray.filterMap (es[·]?)).toList=live.map λq=>es[q.2]?.getD (0,Value.none):=by
  rw [Array.toList_filterMap]
  show (live.map (·.2)).filterMap (es[·]?)=_
  clear lo kC ris mem dH
  induction live with
  | nil=>rfl
  | cons q live ih =>
   have hq:=low q mem_cons_self
   rw [map_cons,filterMap_cons,Array.getElem?_eq_getElem hq,map_cons,Array.getElem?_eq_getElem hq]
   rw [ih λq hq=>low q (mem_cons_of_mem _ hq)]
   rfl
 refine ⟨{ mask:=m,place:=(live.map (·.1)).toArray,dummies:=#[],finger,led,moves,plain:=true },(live.map (·.2)).toArray,?_,?_,?_,rfl,rfl,λx=>?_,?_⟩
 ·unfold laid
  rw [h1]
  show some _=some _
  rw [dH]
 ·rw [← length_toList,aL,length_map,lo]
 ·have pj:((live.map (·.2)).toArray.filterMap (es[·]?)).size=live.length:=by rw [← length_toList,aL,length_map]
  have pp:∀ i (h1:i < ((live.map (·.2)).toArray.filterMap (es[·]?)).size) (h2:i < live.length),((live.map (·.2)).toArray.filterMap (es[·]?))[i]=es[live[i].2]?.getD (0,Value.none):=λi h1 h2=>by
   rw [← Array.getElem_toList]
   have:((live.map (·.2)).toArray.filterMap (es[·]?)).toList[i]'(by rw [length_toList];exact h1)=(live.map λq=>es[q.2]?.getD (0,Value.none))[i]'(by simpa using h2):=by
    congr 1
   rw [this,getElem_map]
  refine ⟨rfl,λi j hi hj lt=>?_,?_,λi hi=>?_,⟨?_,?_⟩,rfl,λi h1 h2=>?_⟩
  ·simp at hi hj
   simp only [List.getElem_toArray,getElem_map]
   exact (List.pairwise_iff_getElem.mp ris) i j hi hj lt
  ·rw [pj];simp
  ·simp at hi
   simp only [List.getElem_toArray,getElem_map]
   have:=(mem live[i].1 live[i].2).mp (getElem_mem hi)
   have:=(Array.getElem?_eq_some_iff.mp this).1
   rw [L.sz] at this
   show _<=m
   omega
  ·simp;omega
  ·have ll:(live.map (·.1)).toArray.size=live.length:=by simp
   show m=511\/(m=127/\(live.map (·.1)).toArray.size<=76)\/(m=31/\(live.map (·.1)).toArray.size<=18)\/(m=7/\_)
   rcases few with z | z | z
   ·exact .inr (.inr (.inl ⟨z.1,by rw [ll];omega⟩))
   ·exact .inr (.inl ⟨z.1,by rw [ll];omega⟩)
   ·exact .inl z.1
  ·have kD:i < live.length:=by simpa using h2
   rw [pp i h1 kD]
   simp only [List.getElem_toArray,getElem_map]
   have m1:=(mem live[i].1 live[i].2).mp (getElem_mem kD)
   have v1:=low live[i] (getElem_mem kD)
   obtain ⟨j,c,e1,e2,e3⟩:=L.way live[i].2 v1
   have:j=live[i].1:=L.one _ _ _ e1 m1
   subst this
   have hh:(es.map (·.1)).toList.getD live[i].2 0=es[live[i].2].1:=by
    rw [getD_eq_getElem?_getD]
    simp [v1]
   rw [hh] at e2 e3
   rw [Array.getElem?_eq_getElem v1]
   refine ⟨c,e2,λc' aK=>?_⟩
   have tk:=e3 c' aK
   unfold tak at tk
   have lt:=(xM m es[live[i].2].1 c').1
   have lt:sl m es[live[i].2].1 c' < o.size:=by rw [L.sz];unfold sl;omega
   rw [getD,dif_pos lt] at tk
   show sl m es[live[i].2].1 c'∈_
   cases x:o[sl m es[live[i].2].1 c'] with
   | none=>simp [x] at tk
   | some v =>
    have:(sl m es[live[i].2].1 c',v)∈live:=(mem _ _).mpr (by rw [Array.getElem?_eq_getElem lt,x])
    simp only [List.mem_toArray,mem_map]
    exact ⟨_,this,rfl⟩
 ·rw [← Array.mem_toList_iff,aL,mem_map]
  constructor
  ·rintro ⟨q,hq,rfl⟩
   rw [Array.getElem?_eq_getElem (low q hq)]
   exact Array.getElem_mem _
  ·intro hx
   obtain ⟨v,hv,rfl⟩:=Array.getElem_of_mem hx
   obtain ⟨j,c,e,_⟩:=L.way v hv
   refine ⟨(j,v),(mem j v).mpr e,?_⟩
   dsimp only
   rw [Array.getElem?_eq_getElem hv]
   rfl
 ·show (live.map (·.2)).Perm _
  refine (List.perm_ext_iff_of_nodup kC List.nodup_range).mpr λv=>⟨λh=>?_,λh=>?_⟩
  ·obtain ⟨q,hq,rfl⟩:=mem_map.mp h
   exact mem_range.mpr (low q hq)
  ·obtain ⟨j,c,e,_⟩:=L.way v (mem_range.mp h)
   exact mem_map.mpr ⟨(j,v),(mem j v).mpr e,rfl⟩
end DL
namespace DL
open PySem PySem.W PySem.Spec PyProof.Rows L2
mutual
def KV (h:Heap):D->Value->Prop
 | .int i,u=>∃ t,u=.int i t
 | .tup ds,u=>∃ a o ac e,u=.ref a/\h.get? a=some o/\o.cls=.type "tuple"/\o.data=.seq (ac:List Value).toArray e/\KVs h ds ac
 | _,_=>False
def KVs (h:Heap):List D->List Value->Prop
 | [],[]=>True
 | d::ds,u::us=>KV h d u/\KVs h ds us
 | _,_=>False
end
mutual
noncomputable def kyB:D->Bool
 | .int _=>true
 | .tup ds=>kyA ds
 | _=>false
noncomputable def kyA:List D->Bool
 | []=>true
 | d::ds=>kyB d&&kyA ds
end
section
variable {X:Cx}{aa:List (Addr×Obj)}{U:L2.St}{H:Hp}{s:Shared}
mutual
theorem Ab (I:Inv X aa U H s):∀ (d:D) (x:V) (u:Value),kyB d=true->Is X.K H d x->RelV x u->KV s.heap d u
 | .int i,x,u,_,h,r=>by
  rw [sV h] at r
  obtain ⟨t,rfl⟩:=r
  rw [KV]
  exact ⟨t,rfl⟩
 | .tup ds,x,u,ky,h,r=>by
  obtain ⟨a,xs,rfl,h1,h2⟩:=sZ h
  cases r
  obtain ⟨ac,r1,t1,_⟩:=I.tuple h1
  obtain ⟨o,e1,e2,n,e3⟩:=t1
  rw [kyB] at ky
  rw [KV]
  exact ⟨a,o,ac,n,rfl,e1,e2,e3,DG I ds xs ac ky h2 r1⟩
 | .non,_,_,ky,_,_=>by simp [kyB] at ky
 | .bl _,_,_,ky,_,_=>by simp [kyB] at ky
 | .str _,_,_,ky,_,_=>by simp [kyB] at ky
 | .lst _,_,_,ky,_,_=>by simp [kyB] at ky
theorem DG (I:Inv X aa U H s):∀ (ds:List D) (xs:List V) (us:List Value),kyA ds=true->IsA X.K H ds xs->Vals xs us->KVs s.heap ds us
 | [],xs,us,_,h,r=>by
  have:=h.nil_inv;subst this
  cases r
  rw [KVs];trivial
 | d::ds,xs,us,ky,h,r=>by
  obtain ⟨x,xr,rfl,h1,h2⟩:=h.cons_inv
  cases r with
  | cons r1 r2 =>
   rw [kyA,and_eq_true] at ky
   rw [KVs]
   exact ⟨Ab I d x _ ky.1 h1 r1,DG I ds xr _ ky.2 h2 r2⟩
end
end
section
variable {prog:Program}{w:World}{E:Value->Shared->Prop}
mutual
noncomputable def hD:D->Int
 | .int i=>hashInt i
 | .tup ds=>reduceHash (tupleHashOf (hDs ds))
 | _=>0
noncomputable def hDs:List D->List Int
 | []=>[]
 | d::ds=>hD d::hDs ds
end
mutual
theorem EF:∀ (d:D) (u:Value) (A:Around) (s:Shared) (Q:Int->Shared->Prop),KV s.heap d u->A.units+dep d < cLine->(∀ tk,Q (hD d) { s with toks:=tk })->wpAny (model prog w) A (pyHash u) Q E s
 | .int i,u,A,s,Q,x,hu,q=>by
  rw [KV] at x
  obtain ⟨t,rfl⟩:=x
  exact wpAny_pyHash_int (by have:=q (s.toks+1);rw [hD] at this;exact this)
 | .tup ds,u,A,s,Q,x,hu,q=>by
  rw [KV] at x
  obtain ⟨a,o,ac,e,rfl,x1,x2,x3,x4⟩:=x
  rw [dep] at hu
  refine pyHash_slot (T := "tuple") ⟨o,x1,x2⟩ F.slot_tuple_hash F.entry_tuple_hash (F.args_tuple_hash_1 _) (beq_builtin_none _) (.inr (by omega)) ?_
  refine wpAny_bind (m:=tupleItemsOf (.ref a)) (wpAny_tupleItemsOf x1 x3 (wpAny_bind ?_))
  rw [← forIn_toList]
  refine Cr ds ac A.in1 s #[] _ x4 (by show A.units+1+_ < _;omega) λtk b hb=>?_
  refine wpAny_bind (m:=mkInt (tupleHashOf b.toList)) (wpAny_mkInt (wpAny_pure ⟨_,_,rfl,?_⟩))
  rw [hb]
  have:=q (tk+1)
  rw [hD] at this
  exact this
 | .non,_,_,_,_,x,_,_=>by simp [KV] at x
 | .bl _,_,_,_,_,x,_,_=>by simp [KV] at x
 | .str _,_,_,_,_,x,_,_=>by simp [KV] at x
 | .lst _,_,_,_,_,x,_,_=>by simp [KV] at x
theorem Cr:∀ (ds:List D) (us:List Value) (A:Around) (s:Shared) (b:Array Int) (Q:Array Int->Shared->Prop),KVs s.heap ds us->A.units+depA ds < cLine->(∀ tk b',b'.toList=b.toList++hDs ds->Q b' { s with toks:=tk }) →
  wpAny (model prog w) A (forIn us b λx r=>do let h ← pyHash x;pure unit;pure (yield (r.push h))) Q E s
 | [],us,A,s,b,Q,x,hu,q=>by
  cases us with
  | cons u us=>simp [KVs] at x
  | nil =>
   rw [forIn_nil]
   exact wpAny_pure (q s.toks b (by simp [hDs]))
 | d::ds,us,A,s,b,Q,x,hu,q=>by
  cases us with
  | nil=>simp [KVs] at x
  | cons u us =>
   rw [KVs] at x
   rw [depA] at hu
   rw [forIn_cons]
   refine wpAny_bind (wpAny_bind (EF d u A s _ x.1 (by omega) λtk=>wpAny_bind (wpAny_pure (wpAny_pure ?_))))
   exact Cr ds us A { s with toks:=tk } _ Q x.2 (by omega) λcH b' hb=>q cH b' (by rw [hb,hDs];simp)
end
mutual
theorem yK:∀ (d:D) (u:Value) (n:Nat) (A:Around) (s:Shared) (Q:Bool->Shared->Prop),KV s.heap d u->dep d<=n->Q true s->wpAny (model prog w) A (eqIsQuiet n u) Q E s
 | .int i,u,n,A,s,Q,x,hn,q=>by
  rw [KV] at x
  obtain ⟨t,rfl⟩:=x
  exact wpAny_of_eq (eqIsQuiet_byValue n rfl) q
 | .tup ds,u,n,A,s,Q,x,hn,q=>by
  rw [KV] at x
  obtain ⟨a,o,ac,e,rfl,x1,x2,x3,x4⟩:=x
  rw [dep] at hn
  obtain ⟨n,rfl⟩:∃ k,n=k+1:=⟨n - 1,by omega⟩
  have hT:s.TypeIs (.ref a) "tuple":=⟨o,x1,x2⟩
  unfold eqIsQuiet
  refine wpAny_bind (wpAny_specialOf hT F.slot_tuple_eq.lookup ?_)
  refine wpAny_bind (m:=isInstance (.ref a) (.type "tuple")) (wpAny_isInstance hT isSubtype_tuple_tuple ?_)
  simp only [Bool.not_true,false_eq_true,if_false]
  refine wpAny_bind (wpAny_seqItems x1 x3 (wpAny_bind ?_))
  show wpAny _ _ (forIn ac.toArray _ _) _ _ s
  rw [← forIn_toList]
  refine DW ds ac n A s _ x4 (by omega) ?_
  exact wpAny_pure q
 | .non,_,_,_,_,_,x,_,_=>by simp [KV] at x
 | .bl _,_,_,_,_,_,x,_,_=>by simp [KV] at x
 | .str _,_,_,_,_,_,x,_,_=>by simp [KV] at x
 | .lst _,_,_,_,_,_,x,_,_=>by simp [KV] at x
theorem DW:∀ (ds:List D) (us:List Value) (n:Nat) (A:Around) (s:Shared) (Q:Option Bool×PUnit->Shared->Prop),KVs s.heap ds us->depA ds<=n->Q (none,()) s →
  wpAny (model prog w) A (forIn us (none,()) λy r=>do
   let __do_lift ← eqIsQuiet n y
   if (!__do_lift)=true then pure (ForInStep.done (some false,())) else do pure unit;pure (yield (none,()))) Q E s
 | [],us,n,A,s,Q,x,hn,q=>by
  cases us with
  | cons u us=>simp [KVs] at x
  | nil =>
   rw [forIn_nil]
   exact wpAny_pure q
 | d::ds,us,n,A,s,Q,x,hn,q=>by
  cases us with
  | nil=>simp [KVs] at x
  | cons u us =>
   rw [KVs] at x
   rw [depA] at hn
   rw [forIn_cons]
   refine wpAny_bind (wpAny_bind (yK d u n A s _ x.1 (by omega) ?_))
   rw [if_neg (by simp)]
   refine wpAny_bind (wpAny_pure (wpAny_pure ?_))
   exact DW ds us n A s Q x.2 (by omega) q
end
mutual
theorem zp:∀ (d:D) (u:Value) (n:Nat) (A:Around) (s:Shared) (Q:Bool->Shared->Prop),KV s.heap d u->dep d<=n->Q false s->wpAny (model prog w) A (ofAClassStatement n u) Q E s
 | .int i,u,n,A,s,Q,x,hn,q=>by
  rw [KV] at x
  obtain ⟨t,rfl⟩:=x
  unfold ofAClassStatement
  exact wpAny_pure q
 | .tup ds,u,n,A,s,Q,x,hn,q=>by
  rw [KV] at x
  obtain ⟨a,o,ac,e,rfl,x1,x2,x3,x4⟩:=x
  rw [dep] at hn
  obtain ⟨n,rfl⟩:∃ k,n=k+1:=⟨n - 1,by omega⟩
  have look:Looks (model prog w) s.heap (typeOf (.ref a)) o.cls:=(Looks.ld x1).andThen .now
  rw [x2] at look
  unfold ofAClassStatement
  refine wpAny_bind (look.here ?_)
  dsimp only
  rw [if_pos (by decide)]
  refine wpAny_bind (wpAny_pure ?_)
  simp only [Bool.not_true,false_eq_true,if_false]
  refine wpAny_bind (wpAny_seqItems x1 x3 (wpAny_bind ?_))
  show wpAny _ _ (forIn ac.toArray _ _) _ _ s
  rw [← forIn_toList]
  refine B4 ds ac n A s _ x4 (by omega) ?_
  exact wpAny_pure q
 | .non,_,_,_,_,_,x,_,_=>by simp [KV] at x
 | .bl _,_,_,_,_,_,x,_,_=>by simp [KV] at x
 | .str _,_,_,_,_,_,x,_,_=>by simp [KV] at x
 | .lst _,_,_,_,_,_,x,_,_=>by simp [KV] at x
theorem B4:∀ (ds:List D) (us:List Value) (n:Nat) (A:Around) (s:Shared) (Q:Option Bool×PUnit->Shared->Prop),KVs s.heap ds us->depA ds<=n->Q (none,()) s →
  wpAny (model prog w) A (forIn us (none,()) λy r=>do
   let __do_lift ← ofAClassStatement n y
   if __do_lift=true then pure (ForInStep.done (some true,())) else do pure unit;pure (yield (none,()))) Q E s
 | [],us,n,A,s,Q,x,hn,q=>by
  cases us with
  | cons u us=>simp [KVs] at x
  | nil =>
   rw [forIn_nil]
   exact wpAny_pure q
 | d::ds,us,n,A,s,Q,x,hn,q=>by
  cases us with
  | nil=>simp [KVs] at x
  | cons u us =>
   rw [KVs] at x
   rw [depA] at hn
   rw [forIn_cons]
   refine wpAny_bind (wpAny_bind (zp d u n A s _ x.1 (by omega) ?_))
   rw [if_neg Bool.false_ne_true]
   refine wpAny_bind (wpAny_pure (wpAny_pure ?_))
   exact B4 ds us n A s Q x.2 (by omega) q
end
mutual
theorem BE:∀ (d:D) (u:Value) (n:Nat) (A:Around) (s:Shared) (Q:Bool->Shared->Prop),KV s.heap d u->dep d<=n->Q true s->wpAny (model prog w) A (hashByValue n u) Q E s
 | .int i,u,n,A,s,Q,x,hn,q=>by
  rw [KV] at x
  obtain ⟨t,rfl⟩:=x
  unfold hashByValue
  exact wpAny_pure q
 | .tup ds,u,n,A,s,Q,x,hn,q=>by
  rw [KV] at x
  obtain ⟨a,o,ac,e,rfl,x1,x2,x3,x4⟩:=x
  rw [dep] at hn
  obtain ⟨n,rfl⟩:∃ k,n=k+1:=⟨n - 1,by omega⟩
  have hT:s.TypeIs (.ref a) "tuple":=⟨o,x1,x2⟩
  unfold hashByValue
  refine wpAny_bind (wpAny_specialOf hT F.slot_tuple_hash.lookup ?_)
  refine wpAny_bind (m:=seqItems? (.ref a)) (wpAny_seqItems x1 x3 (wpAny_bind ?_))
  show wpAny _ _ (forIn ac.toArray _ _) _ _ s
  rw [← forIn_toList]
  refine Ex ds ac n A s _ x4 (by omega) ?_
  exact wpAny_pure q
 | .non,_,_,_,_,_,x,_,_=>by simp [KV] at x
 | .bl _,_,_,_,_,_,x,_,_=>by simp [KV] at x
 | .str _,_,_,_,_,_,x,_,_=>by simp [KV] at x
 | .lst _,_,_,_,_,_,x,_,_=>by simp [KV] at x
theorem Ex:∀ (ds:List D) (us:List Value) (n:Nat) (A:Around) (s:Shared) (Q:Option Bool×PUnit->Shared->Prop),KVs s.heap ds us->depA ds<=n->Q (none,()) s →
  wpAny (model prog w) A (forIn us (none,()) λy r=>do
   let __do_lift ← hashByValue n y
   if (!__do_lift)=true then pure (ForInStep.done (some false,())) else do pure unit;pure (yield (none,()))) Q E s
 | [],us,n,A,s,Q,x,hn,q=>by
  cases us with
  | cons u us=>simp [KVs] at x
  | nil =>
   rw [forIn_nil]
   exact wpAny_pure q
 | d::ds,us,n,A,s,Q,x,hn,q=>by
  cases us with
  | nil=>simp [KVs] at x
  | cons u us =>
   rw [KVs] at x
   rw [depA] at hn
   rw [forIn_cons]
   refine wpAny_bind (wpAny_bind (BE d u n A s _ x.1 (by omega) ?_))
   rw [if_neg (by simp)]
   refine wpAny_bind (wpAny_pure (wpAny_pure ?_))
   exact Ex ds us n A s Q x.2 (by omega) q
end
end
end DL
namespace DL
open PySem PySem.W PySem.Spec PyProof.Rows L2 PySem.SetTable
section
variable {prog:Program}{w:World}{A:Around}{E:Value->Shared->Prop}{s:Shared}
theorem TabOk.fits {t:SetTable}{es:Array (Int×Value)} (T:TabOk t es):t.fits es.size=true:=by
 have:=T.few
 have:=T.sz
 unfold SetTable.fits SetTable.fill
 rw [T.nd]
 simp [T.sz]
 omega
theorem TabOk.gave {t:SetTable}{es:Array (Int×Value)} (T:TabOk t es):t.gaveWay=false:=by
 unfold gaveWay
 rcases T.few.2 with h | h | h | h
 ·rw [h];decide
 ·rw [h.1];decide
 ·rw [h.1];decide
 ·rw [h.1];decide
theorem FQ {a:Addr}{o:Obj}{es:Array (Int×Value)}{ep:Nat}{t:SetTable} (ho:s.heap.get? a=some o) (eA:o.data=.set es ep t) (T:TabOk t es){x:Value}{h:Int}{eqf:Nat->Bool}
  (gQ:∀ i (hi:i < es.size),∃ b,es[i].2=.ref b) (eq:∀ i (hi:i < es.size),es[i].1=h->PySem.SeqAt.EqAt A s es[i].2 x (eqf i))
  (seen:t.led=false->∀ Q:Bool->Shared->Prop,Q false s->wpAny (model prog w) A (searchCouldBeSeen x ((es.filter (·.1 == h)).toList.map (·.2))) Q E s)
  {K:Nat} (hK:sl t.mask h K∉t.place) (hk:∀ k,k < K->sl t.mask h k∈t.place) (rS:K < 10*(t.mask+14)){Q:SetFound->Shared->Prop}
  (kE:∀ i (hi:i < es.size),es[i].1=h->eqf i=true->Q (.there none) s) (free:(∀ i (hi:i < es.size),es[i].1=h->eqf i=false)->Q (.free (sl t.mask h K) false) s) :
  ∀ (f k:Nat) (bP:Option Probe),k<=K->K - k < f->bP.getD (t.probeStart h)=pth t.mask h k->(∀ bw,bw < k->∀ j (hj:j < es.size) (br:j < t.place.size),t.place[j]=sl t.mask h bw->es[j].1=h->eqf j=false) →
   wpAny (model prog w) A (setSearchFrom a x h true f bP) Q E s:=by
 intro f
 induction f with
 | zero=>intro k bP h1 h2;omega
 | succ f ih =>
  intro k bP h1 h2 hs fy
  unfold setSearchFrom
  refine wpAny_bind (wpAny_setState_of ho eA T.fits ?_)
  dsimp only
  rw [T.gave,if_neg Bool.false_ne_true]
  have pr:∀ m,probe.go t (hA es) h (10*turns t.mask) (pth t.mask h k)=some m->t.probe (W.hashAt es) h (bP.getD (t.probeStart h))=some m:=λm e=>by
   rw [hs]
   exact e
  rcases Dc T hK hk (10*turns t.mask) k h1 (by unfold turns;omega) with ⟨k',i,hi,ba,a1,a2,a3,a4,a5,a6⟩ | ⟨a1,a2⟩
  ·have e:=pr _ a5
   change t.probe _ h _=_ at e
   have e':t.probe (λi=>(es[i]?.map (·.1)).getD 0) h (bP.getD (t.probeStart h))=some (.candidate (sl t.mask h k') i (pth t.mask h (k'+1))):=e
   show wpAny _ _ (match t.probe (λi=>(es[i]?.map (·.1)).getD 0) h (bP.getD (t.probeStart h)) with | some met=>_ | _=>_) _ _ _
   rw [e']
   dsimp only
   obtain ⟨b,eb⟩:=gQ i hi
   have gi:es[i]?=some es[i]:=Array.getElem?_eq_getElem hi
   have pq:t.slot (sl t.mask h k')=.live i:=by rw [← a3];exact BV T.ris ba
   have mH:=eq i hi a4
   rw [eb] at mH
   have ask:t.led=true\/t.led=false:=by cases t.led<;>simp
   rcases ask with led | led
   all_goals
    first
     | (rw [led,Bool.not_true,if_neg Bool.false_ne_true])
     | (rw [led,Bool.not_false,if_pos rfl];refine wpAny_bind (seen led _ ?_);rw [if_neg Bool.false_ne_true])
    rw [gi]
    dsimp only
    rw [eb]
    refine wpAny_bind (wpAny_holding (mH prog w _ _ (wpAny_bind (wpAny_setState_of ho eA T.fits ?_))))
    dsimp only
    cases c:eqf i with
    | true =>
     rw [if_pos (by rfl)]
     exact wpAny_pure (kE i hi a4 c)
    | false =>
     rw [if_neg (by decide)]
     have sm:t.sameMemory t.moves t.mask=some true:=by unfold sameMemory;simp
     rw [sm]
     dsimp only
     rw [if_pos rfl,pq]
     dsimp only
     rw [gi]
     dsimp only
     rw [eb]
     refine wpAny_bind (wpAny_isSame_ref_self (wpAny_bind (wpAny_pure ?_)))
     rw [if_pos rfl]
     dsimp only
     rw [if_neg Bool.false_ne_true]
     refine ih (k'+1) _ (by omega) (by omega) rfl λbw b1 j hj br ej hh=>?_
     by_cases z1:bw < k
     ·exact fy bw z1 j hj br ej hh
     ·by_cases z2:bw=k'
      ·have:j=i:=by
        rw [z2,← a3] at ej
        rcases lt_trichotomy j i with l | l | l
        ·have:=T.ris j i br ba l;omega
        ·exact l
        ·have:=T.ris i j ba br l;omega
       subst this
       exact c
      ·exact absurd hh (a6 bw (by omega) (by omega) j hj br ej)
  ·have e':t.probe (λi=>(es[i]?.map (·.1)).getD 0) h (bP.getD (t.probeStart h))=some (.empty (sl t.mask h K) none):=pr _ a1
   show wpAny _ _ (match t.probe (λi=>(es[i]?.map (·.1)).getD 0) h (bP.getD (t.probeStart h)) with | some met=>_ | _=>_) _ _ _
   rw [e']
   dsimp only
   refine wpAny_pure (free λi hi hh=>?_)
   have ba:i < t.place.size:=by rw [T.sz];exact hi
   obtain ⟨c,c1,c2⟩:=T.reach i hi ba
   rw [hh] at c1 c2
   have cK:c < K:=by
    rcases lt_trichotomy c K with l | l | l
    ·exact l
    ·subst l
     exact absurd (by rw [c1];exact Array.getElem_mem ba) hK
    ·exact absurd (c2 K l) hK
   by_cases z:c < k
   ·exact fy c z i hi ba c1.symm hh
   ·exact absurd hh (a2 c (by omega) cK i hi ba c1.symm)
end
section
variable {prog:Program}{w:World}{A:Around}{E:Value->Shared->Prop}{s:Shared}
def SetAt (h:Heap) (a:Addr) (led:Bool) (es:Array (Int×Value)):Prop:=∃ o ep t,h.get? a=some o/\o.cls=.type "set"/\o.data=.set es ep t/\TabOk t es/\t.led=led
theorem CL {h:Heap}{a:Addr}{o:Obj}{es es':Array (Int×Value)}{ep:Nat}{t t':SetTable} (ho:h.get? a=some o) (hd:o.data=.set es ep t):(h.update a (putSet es' t')).get? a=some { o with data:=.set es' (ep+1) t' }:=by
 have e:=putSet_of es' t' hd
 have:=get?_update_self (putSet es' t') ho (by rw [e];rfl)
 rw [e] at this
 exact this
theorem JC {a:Addr}{led:Bool}{es:Array (Int×Value)}{b:Addr}{h:Int}{eqf:Nat->Bool}{Q:Bool->Shared->Prop} (S:SetAt s.heap a led es) (few:(∀ i (hi:i < es.size),es[i].1=h->eqf i=false)->es.size<=59)
  (gQ:∀ i (hi:i < es.size),∃ b,es[i].2=.ref b) (eq:∀ i (hi:i < es.size),es[i].1=h->PySem.SeqAt.EqAt A s es[i].2 (.ref b) (eqf i))
  (seen:∀ Q:Bool->Shared->Prop,Q false s->wpAny (model prog w) A (searchCouldBeSeen (.ref b) ((es.filter (·.1 == h)).toList.map (·.2))) Q E s)
  (value:∀ Q:Bool->Shared->Prop,Q true s->wpAny (model prog w) A (hashByValue 8 (.ref b)) Q E s)
  (old:∀ i (hi:i < es.size),es[i].1=h->eqf i=true->Q false s)
  (new:(∀ i (hi:i < es.size),es[i].1=h->eqf i=false)->∀ h' es',SetAt h' a led es'->(∀ e,e∈es'↔e=(h,.ref b)\/e∈es)->es'.size=es.size+1->KeptBut a s.heap h'->Q true { s with heap:=h' }) :
  wpAny (model prog w) A (setAddHashed a (.ref b) h) Q E s:=by
 have line:600<=sizeLine:=by rw [sizeLine_eq];decide
 obtain ⟨o,ep,t,ho,hc,eA,T,tl⟩:=S
 obtain ⟨K,k1,k2,k3⟩:=T.free h
 have fits:=T.fits
 unfold setAddHashed
 refine wpAny_holding ?_
 unfold setAddHashedIn
 refine wpAny_bind (wpAny_setState_of ho eA fits ?_)
 dsimp only
 rw [if_neg (by simp [byScan,Value.scannable])]
 unfold setSearch
 refine wpAny_bind (FQ ho eA T gQ eq (λ_=>seen) k2 k3 k1 (λi hi hh ee=>?_) (λaU=>?_) 100000 0 none (zero_le _) ?_ rfl λbw z=>by omega)
 ·exact wpAny_pure (old i hi hh ee)
 ·have few:=few aU
  dsimp only
  refine wpAny_bind (wpAny_setState_of ho eA fits ?_)
  dsimp only
  obtain ⟨p1,p2,p3,p4,p5,p6,p7,p8,p9,kG,mI⟩:=J7 T (h:=h) (x:=.ref b) k2 k3
  obtain ⟨q,pt⟩:∃ q,q=t.put (sl t.mask h K):=⟨_,rfl⟩
  rw [← pt] at p1 p2 p3 p4 p5 p6 p7 p8 p9 kG mI ⊢
  rw [p6,T.pl,if_pos rfl]
  refine wpAny_bind (value _ ?_)
  rw [if_pos rfl]
  have cw:(insertAt es q.2 (h,Value.ref b)).size=es.size+1:=y4 kG _
  refine wpAny_bind (wpAny_storeSet_of ho eA ?_ (by rw [cw];omega))
  have g1:=CL (es':=insertAt es q.2 (h,Value.ref b)) (t':=q.1) ho eA
  have cx:KeptBut a s.heap (s.heap.update a (putSet (insertAt es q.2 (h,Value.ref b)) q.1)):=λc u ne e=>(get?_update_other _ _ (Ne.symm ne)).trans e
  have dk:∀ e,e∈insertAt es q.2 (h,Value.ref b)↔e=(h,.ref b)\/e∈es:=λe=>AX kG _ e
  obtain ⟨h1,pw⟩:∃ h1,h1=s.heap.update a (putSet (insertAt es q.2 (h,Value.ref b)) q.1):=⟨_,rfl⟩
  rw [← pw] at g1 cx ⊢
  have fill:q.1.fill=es.size+1:=by
   unfold SetTable.fill
   rw [p1,p9,T.sz]
   rfl
  by_cases full:q.1.tooFull=true
  ·-- laid anew: five things,32 places
   have m7:(t.mask=7/\es.size+1=5)\/(t.mask=31/\es.size+1=19):=by
    unfold tooFull at full
    rw [fill,p5] at full
    simp only [ge_iff_le,decide_eq_true_eq] at full
    have:=T.few
    have:=T.sz
    rcases this with x
    rcases T.few.2 with m | m | m | m
    ·rw [m] at full;omega
    ·rw [m.1] at full;omega
    ·rw [m.1] at full;omega
    ·rw [m.1] at full;omega
   obtain ⟨nm,Rn,sa,fw⟩:∃ nm,Round nm/\sizeAbove (grown (es.size+1))=nm+1/\((nm=31/\es.size+1<=18)\/(nm=127/\es.size+1<=76)\/(nm=511/\es.size+1<=300)):=by
    rcases m7 with z | z
    ·exact ⟨31,round31,by rw [z.2];decide,.inl ⟨rfl,by omega⟩⟩
    ·exact ⟨127,round127,by rw [z.2];decide,.inr (.inl ⟨rfl,by omega⟩)⟩
   rw [if_pos (by simp [full])]
   unfold setRelay
   have kH:q.1.fits (insertAt es q.2 (h,Value.ref b)).size=true:=by
    unfold SetTable.fits
    rw [fill,cw,p5,p9,T.sz]
    rcases m7 with z | z<;>rw [z.1]<;>simp<;>omega
   refine wpAny_bind (wpAny_bind (wpAny_setState_of (s:={ s with heap:=h1 }) g1 rfl kH ?_))
   dsimp only
   rw [sa,if_neg (by omega)]
   obtain ⟨t2,bO,l1,l2,l3,l4,l5,l6,_⟩:=Ls (es:=insertAt es q.2 (h,Value.ref b)) Rn (by rw [cw];exact fw) q.1.finger (q.1.movedTo nm) q.1.led
   have rel:q.1.relaid ((insertAt es q.2 (h,Value.ref b)).map (·.1)) (grown (es.size+1))=some (t2,bO):=by
    unfold relaid
    rw [sa,p6,T.pl]
    exact l1
   rw [rel]
   refine wpAny_bind (wpAny_of_eq (a:=(bO.filterMap ((insertAt es q.2 (h,Value.ref b))[·]?),t2)) ?_ ?_)
   ·show (if ((bO.filterMap ((insertAt es q.2 (h,Value.ref b))[·]?)).size != (insertAt es q.2 (h,Value.ref b)).size)=true then _ else pure _)=_
    rw [l2,bne_self_eq_false,if_neg Bool.false_ne_true]
   ·dsimp only
    refine wpAny_storeSet_of g1 rfl ?_ (by rw [l2,cw];omega)
    refine wpAny_pure (new aU _ _ ⟨_,_,t2,CL g1 rfl,hc,rfl,l3,by rw [l5,p7,tl]⟩ (λe=>(l6 e).trans (dk e)) (by rw [l2,cw]) λc u ne e=>(get?_update_other _ _ (Ne.symm ne)).trans (cx c u ne e))
  ·rw [if_neg (by simp [full])]
   refine wpAny_pure (new aU h1 _ ⟨_,_,q.1,g1,hc,rfl,⟨p1,p2,p3,p4,?_,by rw [p6];exact T.pl,mI⟩,by rw [p7,tl]⟩ dk cw cx)
   unfold tooFull at full
   rw [fill,p5] at full
   simp only [ge_iff_le,decide_eq_true_eq] at full
   have:=T.sz
   rw [p9,p5]
   refine ⟨by omega,?_⟩
   rcases T.few.2 with m | m | m | m
   ·exact .inl m
   ·refine .inr (.inl ⟨m.1,?_⟩)
    rw [m.1] at full
    omega
   ·refine .inr (.inr (.inl ⟨m.1,?_⟩))
    rw [m.1] at full
    omega
   ·refine .inr (.inr (.inr ⟨m.1,?_⟩))
    rw [m.1] at full
    omega
 ·rcases T.few.2 with m | m | m | m
  ·rw [m] at k1;omega
  ·rw [m.1] at k1;omega
  ·rw [m.1] at k1;omega
  ·rw [m.1] at k1;omega
end
noncomputable def dstep (ae:List D) (d:D):List D:=if ae.any (λe=>deq e d)=true then ae else ae++[d]
def dd (ds:List D):List D:=ds.foldl dstep []
theorem EY (ae:List D) (d:D):ae.length<=(dstep ae d).length:=by
 unfold dstep
 split
 ·exact le_refl _
 ·simp
theorem DJ:∀ (ds ae:List D),ae.length<=(ds.foldl dstep ae).length
 | [],ae=>le_refl _
 | d::ds,ae=>le_trans (EY ae d) (DJ ds _)
theorem GI (ds:List D){i:Nat} (h:i < ds.length):dd (ds.take (i+1))=dstep (dd (ds.take i)) ds[i]:=by
 unfold dd
 rw [take_succ,foldl_append,getElem?_eq_getElem h]
 rfl
theorem IE (ds:List D) (i:Nat):(dd (ds.take i)).length<=(dd ds).length:=by
 unfold dd
 conv=>rhs;rw [← take_append_drop i ds,foldl_append]
 exact DJ _ _
theorem EI {d:D}:∀ (ds ae:List D),d∈ds.foldl dstep ae->d∈ae\/d∈ds
 | [],ae,h=>.inl h
 | e::ds,ae,h=>by
  rcases EI ds _ h with h | h
  ·unfold dstep at h
   split at h
   ·exact .inl h
   ·rcases mem_append.mp h with h | h
    ·exact .inl h
    ·exact .inr (by rw [mem_singleton.mp h];exact mem_cons_self)
  ·exact .inr (mem_cons_of_mem _ h)
theorem wN {ds:List D}{d:D} (h:d∈dd ds):d∈ds:=by
 rcases EI ds [] h with h | h
 ·cases h
 ·exact h
section
variable {X:Cx}{aa:List (Addr×Obj)}{U:L2.St}{H:Hp}{s0 s:Shared}{prog:Program}{w:World}{A:Around}{E:Value->Shared->Prop}
def Stn (X:Cx) (H:Hp) (e:Int×Value) (d:D):Prop:=e.1=hD d/\∃ x,Is X.K H d x/\RelV x e.2
def EsOk (X:Cx) (H:Hp) (es:Array (Int×Value)) (L:List D):Prop:=es.size=L.length/\(∀ e∈es,∃ d∈L,Stn X H e d)/\∀ d∈L,∃ e∈es,Stn X H e d
def isT:D->Bool
 | .tup _=>true
 | _=>false
theorem xl {d:D}{x:V}{u:Value} (ht:isT d=true) (h:Is X.K H d x) (r:RelV x u):∃ b,x=.ref b/\u=.ref b:=by
 cases d<;>simp [isT] at ht
 obtain ⟨a,xs,rfl,h1,h2⟩:=sZ h
 cases r
 exact ⟨a,rfl,rfl⟩
theorem Stn.det (I:Inv X aa U H s){e:Int×Value}{d d':D} (h:isT d=true) (h':isT d'=true) (x:Stn X H e d) (y:Stn X H e d'):d=d':=by
 obtain ⟨_,v,a1,a2⟩:=x
 obtain ⟨_,v',b1,b2⟩:=y
 obtain ⟨b,rfl,e1⟩:=xl h a1 a2
 obtain ⟨b',rfl,e2⟩:=xl h' b1 b2
 rw [e1] at e2
 cases e2
 exact wu I a1 b1
theorem Im {x:Value}{d:D} (hx:KV s.heap d x) (dx:dep d<=8):∀ (ys:List Value) (Q:Bool->Shared->Prop),(∀ y∈ys,∃ e,KV s.heap e y/\dep e<=8)->Q false s->wpAny (model prog w) A (searchCouldBeSeen x ys) Q E s:=by
 intro ys Q hy q
 unfold searchCouldBeSeen
 refine wpAny_bind ?_
 have aQ:∀ (ys:List Value) (R:Option Bool×PUnit->Shared->Prop) (body:Value->Option Bool×PUnit->Sem (ForInStep (Option Bool×PUnit))),(∀ y∈ys,∀ R':ForInStep (Option Bool×PUnit)->Shared->Prop,R' (.yield (none,())) s->wpAny (model prog w) A (body y (none,())) R' E s)->R (none,()) s →
   wpAny (model prog w) A (forIn ys (none,()) body) R E s:=by
  intro ys R body hb r
  induction ys with
  | nil=>rw [forIn_nil];exact wpAny_pure r
  | cons y ys ih =>
   rw [forIn_cons]
   exact wpAny_bind (hb y mem_cons_self _ (ih λz hz=>hb z (mem_cons_of_mem _ hz)))
 refine aQ ys _ _ (λy px R' r'=>?_) (wpAny_pure q)
 obtain ⟨e,ky,ke⟩:=hy y px
 dsimp only
 split
 all_goals
  split
  ·exact wpAny_pure r'
  ·refine wpAny_bind (yK d _ 8 A s _ hx dx ?_)
   rw [if_neg (by simp)]
   refine wpAny_bind (yK e _ 8 A s _ ky ke ?_)
   rw [if_neg (by simp)]
   refine wpAny_bind (zp d _ 8 A s _ hx dx ?_)
   rw [if_neg Bool.false_ne_true]
   refine wpAny_bind (zp e _ 8 A s _ ky ke ?_)
   rw [if_neg Bool.false_ne_true]
   exact wpAny_pure r'
end
section
variable {X:Cx}{aa:List (Addr×Obj)}{U:L2.St}{H:Hp}{s0 s:Shared}{prog:Program}{w:World}{A:Around}{E:Value->Shared->Prop}
def Ext (s0 s:Shared):Prop:=∃ h tk,s={ s0 with heap:=h,toks:=tk }/\∀ b o,s0.heap.get? b=some o->h.get? b=some o
theorem Ext.inv (I:Inv X aa U H s0) (e:Ext s0 s):Inv X aa U H s:=by
 obtain ⟨h,tk,rfl,k⟩:=e
 exact I.kept (t':=tk) k
theorem Ext.next (e:Ext s0 s){h':Heap}{tk:Nat} (k:∀ b o,b < s0.heap.objs.size->s.heap.get? b=some o->h'.get? b=some o):Ext s0 { s with heap:=h',toks:=tk }:=by
 obtain ⟨h,t,rfl,k0⟩:=e
 exact ⟨h',tk,rfl,λb o x=>k b o (lt_size x) (k0 b o x)⟩
def SetOk (ds:List D):Prop:=cmAll ds=true/\ds.all kyB=true/\ds.all isT=true/\depA ds<=8/\(dd ds).length<=28
theorem SetAt.kept {h h':Heap}{a:Addr}{led:Bool}{es:Array (Int×Value)} (S:SetAt h a led es) (k:∀ o,h.get? a=some o->h'.get? a=some o):SetAt h' a led es:=by
 obtain ⟨o,ep,t,r1,r2⟩:=S
 exact ⟨o,ep,t,k _ r1,r2⟩
theorem Stn.up {J:Hp} (hJ:∀ d x,Is X.K J d x->Is X.K H d x){e:Int×Value}{d:D} (h:Stn X J e d):Stn X H e d:=by
 obtain ⟨h1,x,h2,h3⟩:=h
 exact ⟨h1,x,hJ _ _ h2,h3⟩
theorem Mf (I0:Inv X aa U H s0){S It:Addr} (hS:s0.heap.objs.size<=S) (pz:s0.heap.objs.size<=It){fp:List Addr}{n:Nat}{P:Nat->Value->Prop}{St:Nat->Heap->Prop} (W:Walks prog w A.in1 It fp [It] n P St) (mJ:S∉fp)
  {J:Hp} (hJ:∀ d x,Is X.K J d x->Is X.K H d x){ds:List D}{zs:List V} (ha:IsA X.K J ds zs) (ok:SetOk ds) (hn:n=ds.length) (hP:∀ i v,P i v->∃ x,zs[i]?=some x/\RelV x v) (hu:A.units+20 < cLine){led:Bool}{R:Result->Shared->Prop} :
  ∀ (k i:Nat) (s:Shared),n - i=k->i<=n->Ext s0 s->St i s.heap->(∃ es,SetAt s.heap S led es/\EsOk X J es (dd (ds.take i))) →
   (∀ s' es,Ext s0 s'->SetAt s'.heap S led es->EsOk X J es (dd ds)->R (.ok (.ret .none)) s') →
   codeAny (model prog w) A (.builtin "set.update.loop" ⟨[.ref S,.ref It],[]⟩) R s:=by
 obtain ⟨cm,ky,ti,dp,few⟩:=ok
 have mK:S≠It:=λe=>mJ (by rw [e];exact W.sub It mem_cons_self)
 have nb:∀ b,b < s0.heap.objs.size->b∉[It]:=λb hb h=>by
  rw [mem_singleton.mp h] at hb
  exact absurd pz (Nat.not_le.mpr hb)
 have pA:∀ b,b < s0.heap.objs.size->b≠S:=λb hb h=>by
  rw [h] at hb
  exact absurd hS (Nat.not_le.mpr hb)
 intro k
 induction k with
 | zero =>
  intro i s hk hi ex st gR r
  obtain ⟨es,s1,s2⟩:=gR
  have:i=n:=by omega
  subst this
  refine codeAny_builtin F.entry_set_update_loop ?_;rw [under_plainId F.plain_set_update_loop _]
  refine wpAny_bind (m:=pyNext (.ref It)) (W.done s _ _ st λh' tk keep=>wpAny_pure ?_)
  rw [hn,take_length] at s2
  exact r _ es (ex.next λb o hb x=>keep b o (nb b hb) x) (s1.kept λo x=>keep S o (by simpa using mK) x) s2
 | succ k ih =>
  intro i s hk hi ex st gR r
  obtain ⟨es,s1,s2⟩:=gR
  have lt:i < ds.length:=by omega
  refine codeAny_builtin F.entry_set_update_loop ?_;rw [under_plainId F.plain_set_update_loop _]
  refine wpAny_bind (m:=pyNext (.ref It)) (W.item i s _ _ (by omega) st λv h1 pB pv cG cx=>?_)
  obtain ⟨x,e1,rv⟩:=hP i v pv
  obtain ⟨x',dE,hx⟩:=ha.get (getElem?_eq_getElem lt)
  rw [e1] at dE
  cases dE
  have dm:ds[i]∈ds:=getElem_mem lt
  have td:isT ds[i]=true:=all_eq_true.mp ti _ dm
  have mL:dep ds[i]<=8:=le_trans (uC dm) dp
  obtain ⟨b,rfl,rfl⟩:=xl td hx rv
  have kJ:∀ tk,Ext s0 { s with heap:=h1,toks:=tk }:=λtk=>ex.next λb o hb x=>cx b o (nb b hb) x
  have mM:SetAt h1 S led es:=s1.kept λo x=>cx S o (by simpa using mK) x
  have I1:=(kJ pB).inv I0
  have kK:=Ab I1 _ _ _ (all_eq_true.mp ky _ dm) (hJ _ _ hx) rv
  refine wpAny_bind (m:=holding [.ref b] (setAdd S (.ref b))) (wpAny_holding ?_)
  unfold setAdd
  refine wpAny_holding (wpAny_bind (EF _ _ _ _ _ kK (by show A.units+1+_ < _;omega) λtk=>?_))
  have I2:=(kJ tk).inv I0
  have ch:∀ k,∃ d',∀ hk:k < es.size,d'∈dd (ds.take i)/\Stn X J es[k] d':=λk=>by
   by_cases hk:k < es.size
   ·obtain ⟨d',m,q⟩:=s2.2.1 es[k] (Array.getElem_mem hk)
    exact ⟨d',λ_=>⟨m,q⟩⟩
   ·exact ⟨.non,λh=>absurd h hk⟩
  have gS:∀ k (hk:k < es.size),(ch k).choose∈dd (ds.take i)/\Stn X J es[k] (ch k).choose:=λk hk=>(ch k).choose_spec hk
  have sub:∀ d'∈dd (ds.take i),d'∈ds:=λd' h=>mem_of_mem_take (wN h)
  have pC:∀ d'∈dd (ds.take i),cmB d' ds[i]=true:=λd' h=>all_eq_true.mp (all_eq_true.mp cm _ (sub d' h)) _ dm
  have eU:∀ d'∈dd (ds.take i),isT d'=true:=λd' h=>all_eq_true.mp ti _ (sub d' h)
  have jD:∀ d'∈dd (ds.take i),dep d'<=8:=λd' h=>le_trans (uC (sub d' h)) dp
  have pD:∀ d'∈dd (ds.take i),∀ e,Stn X J e d'->KV h1 d' e.2:=λd' h e q=>by
   obtain ⟨_,y,q1,q2⟩:=q
   exact Ab I2 _ _ _ (all_eq_true.mp ky _ (sub d' h)) (hJ _ _ q1) q2
  have aU:(∀ k (hk:k < es.size),es[k].1=hD ds[i]->deq (ch k).choose ds[i]=false)->(dd (ds.take i)).any (λe=>deq e ds[i])=false:=λhz=>by
   rw [Bool.eq_false_iff]
   intro h
   obtain ⟨d',m,q⟩:=any_eq_true.mp h
   obtain ⟨e,m1,q1⟩:=s2.2.2 d' m
   obtain ⟨k,hk,rfl⟩:=Array.getElem_of_mem m1
   have same:=Stn.det I2 (eU _ (gS k hk).1) (eU _ m) ((gS k hk).2.up hJ) (q1.up hJ)
   have pE:=wM _ _ (pC d' m) q
   have:=hz k hk (by rw [q1.1,pE])
   rw [same,q] at this
   cases this
  have step:dd (ds.take (i+1))=dstep (dd (ds.take i)) ds[i]:=GI ds lt
  have cont:∀ h2 es',KeptBut S h1 h2->SetAt h2 S led es'->EsOk X J es' (dd (ds.take (i+1)))->codeAny (model prog w) A (.builtin "set.update.loop" ⟨[.ref S,.ref It],[]⟩) R { s with heap:=h2,toks:=tk }:=λh2 es' kb sa eo=>by
   refine ih (i+1) _ (by omega) (by omega) ((kJ tk).next (tk:=tk) λb o hb x=>kb b o (pA b hb) x) (W.frame _ _ _ cG λb hb o x=>kb b o (λe=>mJ (e▸hb)) x) ⟨es',sa,eo⟩ r
  refine JC (s:={ s with heap:=h1,toks:=tk }) (led:=led) (es:=es) (eqf:=λk=>deq (ch k).choose ds[i]) mM (λhz=>?_) (λk hk=>?_) (λk hk _=>?_) (λQ q=>?_) (λQ q=>BE _ _ 8 _ _ _ kK mL q) (λk hk hh ee=>?_) λhz h2 es' sa mem sz kb=>?_
  ·have l1:=IE ds (i+1)
   rw [step,dstep,if_neg (by rw [aU hz];exact Bool.false_ne_true),length_append,List.length_singleton,← s2.1] at l1
   omega
  ·obtain ⟨m,_,y,q1,q2⟩:=gS k hk
   obtain ⟨b',_,e⟩:=xl (eU _ m) q1 q2
   exact ⟨b',e⟩
  ·obtain ⟨m,_,y,q1,q2⟩:=gS k hk
   exact (vq I2 8 A.in1 (by show A.units+1+8 < _;omega) _ _ _ _ _ _ (.inl (jD _ m)) (hJ _ _ q1) (hJ _ _ hx) q2 rv).2.1
  ·refine Im (s:={ s with heap:=h1,toks:=tk }) (d:=ds[i]) kK mL _ _ (λy hy=>?_) q
   obtain ⟨e,m,rfl⟩:=mem_map.mp hy
   have m':e∈es:=(Array.mem_filter.mp (Array.mem_toList_iff.mp m)).1
   obtain ⟨d',m1,q1⟩:=s2.2.1 e m'
   exact ⟨d',pD d' m1 e q1,jD d' m1⟩
  ·refine wpAny_pure ⟨plainId_quiet F.plain_set_update_loop _,cont h1 es (λb o _ x=>x) mM ?_⟩
   rw [step,dstep,if_pos (any_eq_true.mpr ⟨_,(gS k hk).1,ee⟩)]
   exact s2
  ·refine wpAny_pure ⟨plainId_quiet F.plain_set_update_loop _,cont h2 es' kb sa ?_⟩
   rw [step,dstep,if_neg (by rw [aU hz];exact Bool.false_ne_true)]
   have own:Stn X J (hD ds[i],.ref b) ds[i]:=⟨rfl,_,hx,rv⟩
   refine ⟨by rw [sz,s2.1];simp,λe he=>?_,λd' bK=>?_⟩
   ·rcases (mem e).mp he with rfl | he
    ·exact ⟨_,by simp,own⟩
    ·obtain ⟨d',m,q⟩:=s2.2.1 e he
     exact ⟨d',mem_append_left _ m,q⟩
   ·rcases mem_append.mp bK with h | h
    ·obtain ⟨e,m,q⟩:=s2.2.2 d' h
     exact ⟨e,(mem e).mpr (.inr m),q⟩
    ·rw [mem_singleton.mp h]
     exact ⟨_,(mem _).mpr (.inl rfl),own⟩
end
theorem BA:Manifest.owners.lookup (String.ofList ['r','o','t','a','r','e','t','i','_','t','e','s'].reverse)=some Manifest.sig_set_iterator:=by kernel_rfl
theorem vp:Slot "set_iterator" "__next__" "set_iterator.__next__":=.of (owner := "set_iterator") (n := "__next__") (by rw [typeLookup_type,builtinLookup_eq_fast];kernel_rfl) (by decide +kernel) (by decide +kernel) (by decide +kernel) (by first | exact .inl (by decide +kernel) | exact .inr (by decide +kernel)) (by rw [isSubtype_type];kernel_rfl)
theorem CH:entryFor table "set_iterator.__next__"=some Builtin.«set_iterator.__next__»:=entryFor_of_tree (by kernel_rfl)
theorem BX (a:Value):argsOk "set_iterator.__next__" ⟨[a],[]⟩:=by
 unfold argsOk
 rw [signature?_of (id := "set_iterator.__next__") (n:=['_','_','t','x','e','n','_','_']) (o:=['r','o','t','a','r','e','t','i','_','t','e','s']) (by kernel_rfl) BA]
 kernel_rfl
theorem K6:entryFor table "set.__iter__"=some Builtin.«frozenset.__iter__»:=entryFor_alias (id' := "frozenset.__iter__") (by kernel_rfl) rfl (by decide +kernel) (by kernel_rfl)
theorem Ck {α:Type}:∀ (l:List α) (i:Nat) (h:i < l.length),(l[i]::l.eraseIdx i).Perm l
 | a::l,0,h=>List.Perm.refl _
 | a::l,i+1,h=>by
  rw [List.eraseIdx_cons_succ,List.getElem_cons_succ]
  exact (swap a _ _).trans ((Ck l i (by simpa using h)).cons a)
theorem Em {α:Type} (next:Nat->Nat):∀ (f k:Nat) (left:List α) (aL:Array α),left.length=f->(pickOrder.go next f k left aL).toList.Perm (aL.toList++left)
 | 0,k,left,aL,h=>by
  rw [pickOrder.go,length_eq_zero_iff.mp h,append_nil]
 | f+1,k,left,aL,h=>by
  have lt:next k % left.length < left.length:=mod_lt _ (by omega)
  rw [pickOrder.go,getElem?_eq_getElem lt]
  dsimp only
  refine (Em next f (k+1) _ _ (by rw [List.length_eraseIdx_of_lt lt];omega)).trans ?_
  rw [Array.toList_push,append_assoc]
  exact List.Perm.append_left _ (Ck left _ lt)
theorem Ms {α:Type} (next:Nat->Nat) (xs:Array α):(pickOrder next xs).toList.Perm xs.toList:=by
 have:=Em next xs.size 0 xs.toList #[] (by simp)
 simpa [pickOrder] using this
section
variable {prog:Program}{w:World}{A:Around}{E:Value->Shared->Prop}{s:Shared}
def byTx (w:World):Bool:=w.params.followText "set-order"
noncomputable def walkOf (w:World) (S:Addr) (ep:Nat) (es:Array (Int×Value)):Array (Int×Value):=if byTx w=true then pickOrder (w.params.setOrder S ep) es else es
theorem zd (w:World) (S:Addr) (ep:Nat) (es:Array (Int×Value)):(walkOf w S ep es).toList.Perm es.toList:=by
 unfold walkOf
 split
 ·exact Ms _ _
 ·exact List.Perm.refl _
theorem xH (w:World) (S:Addr) (ep:Nat) (es:Array (Int×Value)):(walkOf w S ep es).size=es.size:=by
 have:=(zd w S ep es).length_eq
 simpa using this
noncomputable def slotAt (w:World) (t:SetTable) (k:Nat):Nat:=if byTx w=true then 0 else match k with
 | 0=>0
 | k+1=>t.place.getD k 0+1
def SitAt (h:Heap) (I S:Addr) (slot k n ep:Nat):Prop:=∃ o,h.get? I=some o/\o.cls=.type "set_iterator"/\o.data=.fields #[.int slot 0,.int k 0,.ref S,.int n 0,.int ep 0]
def SetIs (h:Heap) (S:Addr) (es:Array (Int×Value)) (ep:Nat) (t:SetTable):Prop:=∃ o,h.get? S=some o/\o.cls=.type "set"/\o.data=.set es ep t
theorem Gj {w:World}{t:SetTable}{es:Array (Int×Value)} (T:TabOk t es) (hb:byTx w=false){k:Nat} (hk:k<=es.size):below t.place (slotAt w t k)=k:=by
 unfold slotAt
 rw [hb,if_neg Bool.false_ne_true];have sz:=T.sz
 cases k with
 | zero =>
  dsimp only
  obtain ⟨b1,b2,b3⟩:=xP T.ris 0
  rcases Nat.eq_zero_or_pos (below t.place 0) with h | h
  ·exact h
  ·have:=b2 0 (by omega) h
   omega
 | succ k =>
  dsimp only
  have lt:k < t.place.size:=by omega
  rw [getD,dif_pos lt]
  change below t.place (t.place[k]+1)=k+1
  obtain ⟨b1,b2,b3⟩:=xP T.ris (t.place[k]+1)
  rcases lt_trichotomy (below t.place (t.place[k]+1)) (k+1) with l | l | l
  ·have:=b3 k lt (by omega)
   omega
  ·exact l
  ·have h1:k+1 < t.place.size:=by omega
   have:=b2 (k+1) h1 l
   have:=T.ris k (k+1) lt h1 (by omega)
   omega
theorem yI {Q:Bool->Shared->Prop} (q:Q (byTx w) s):wpAny (model prog w) A setsByText Q E s:=wpAny_bind (wpAny_askSetting (wpAny_pure q))
theorem B3 {S:Addr}{es:Array (Int×Value)}{ep:Nat}{t:SetTable} (T:TabOk t es) (led:t.led=!byTx w) (hS:SetIs s.heap S es ep t){k:Nat} (hk:k<=es.size){Q:Option (Value×Nat)->Shared->Prop}
  (q:Q ((walkOf w S ep es)[k]?.map λe=>(e.2,slotAt w t (k+1))) s):wpAny (model prog w) A (setNext S (slotAt w t k) k ep) Q E s:=by
 obtain ⟨o,ho,hc,hd⟩:=hS
 unfold setNext
 refine wpAny_bind (wpAny_setState_of ho hd T.fits ?_)
 dsimp only
 refine wpAny_bind (yI ?_)
 cases hb:byTx w with
 | true =>
  rw [if_pos rfl,bne_self_eq_false,if_neg Bool.false_ne_true]
  have z:∀ k,slotAt w t k=0:=λk=>by unfold slotAt;rw [hb,if_pos rfl]
  rw [z]
  rw [z] at q
  refine wpAny_bind ?_
  unfold setWalk
  refine wpAny_bind (wpAny_setState_of ho hd T.fits ?_)
  dsimp only
  refine wpAny_bind (yI ?_)
  rw [hb,if_pos rfl]
  refine wpAny_bind (wpAny_askSetting (wpAny_pure (wpAny_pure ?_)))
  unfold walkOf at q
  rw [hb,if_pos rfl] at q
  exact q
 | false =>
  rw [if_neg Bool.false_ne_true]
  show wpAny _ _ (if (!t.plain&&decide (es.size > 1))=true then _ else _) _ _ _
  rw [T.pl,Bool.not_true,Bool.false_and,if_neg Bool.false_ne_true]
  refine wpAny_bind ?_
  show wpAny _ _ (if (!t.led&&!es.isEmpty)=true then _ else _) _ _ _
  rw [led,hb,Bool.not_false,Bool.not_true,Bool.false_and,if_neg Bool.false_ne_true]
  refine wpAny_pure (wpAny_pure ?_);rw [Gj T hb hk]
  unfold walkOf at q
  rw [hb,if_neg Bool.false_ne_true] at q
  have sz:=T.sz
  by_cases lt:k < es.size
  ·have lt':k < t.place.size:=by omega
   rw [Array.getElem?_eq_getElem lt,Array.getElem?_eq_getElem lt']
   rw [Array.getElem?_eq_getElem lt] at q
   unfold slotAt at q
   rw [hb,if_neg Bool.false_ne_true] at q
   simp only [map_some,getD,lt',dif_pos] at q
   exact q
  ·rw [getElem?_eq_none (by omega)]
   rw [getElem?_eq_none (by omega)] at q
   exact q
end
section
variable {prog:Program}{w:World}{A:Around}{E:Value->Shared->Prop}{s:Shared}
theorem Db:Slot "set_iterator" "__iter__" "set_iterator.__iter__":=.of (owner := "set_iterator") (n := "__iter__") (by rw [typeLookup_type,builtinLookup_eq_fast];kernel_rfl) (by decide +kernel) (by decide +kernel) (by decide +kernel) (by first | exact .inl (by decide +kernel) | exact .inr (by decide +kernel)) (by rw [isSubtype_type];kernel_rfl)
theorem ER:entryFor table "set_iterator.__iter__"=some Builtin.«dict_keyiterator.__iter__»:=entryFor_alias (id' := "dict_keyiterator.__iter__") (by kernel_rfl) rfl (by decide +kernel) (by kernel_rfl)
theorem Lz (a:Value):argsOk "set_iterator.__iter__" ⟨[a],[]⟩:=by
 unfold argsOk
 rw [signature?_of (id := "set_iterator.__iter__") (n:=['_','_','r','e','t','i','_','_']) (o:=['r','o','t','a','r','e','t','i','_','t','e','s']) (by kernel_rfl) BA]
 kernel_rfl
theorem SitAt.type {I S:Addr}{slot k n ep:Nat} (h:SitAt s.heap I S slot k n ep):s.TypeIs (.ref I) "set_iterator":=by
 obtain ⟨o,h1,h2,_⟩:=h
 exact ⟨o,h1,h2⟩
theorem SetIs.type {S:Addr}{es:Array (Int×Value)}{ep:Nat}{t:SetTable} (h:SetIs s.heap S es ep t):s.TypeIs (.ref S) "set":=by
 obtain ⟨o,h1,h2,_⟩:=h
 exact ⟨o,h1,h2⟩
theorem E3 {S:Addr}{es:Array (Int×Value)}{ep:Nat}{t:SetTable} (T:TabOk t es) (hS:SetIs s.heap S es ep t){Q:Value->Shared->Prop}
  (q:Q (.ref s.heap.objs.size) { s with heap:=s.heap.push { cls:=.type "set_iterator", data:=.fields #[.int 0 0,.int 0 0,.ref S,.int es.size 0,.int ep 0] } }):wpAny (model prog w) A (pyIter (.ref S)) Q E s:=by
 have hT:=hS.type
 obtain ⟨o,ho,hc,hd⟩:=hS
 refine wpAny_pyIter_slot hT F.slot_set_iter (wpAny_call_entry F.slot_set_iter hT K6 ?_ (F.args_set_iter_1 _))
 refine wpAny_bind (m:=slot0 "__iter__" ⟨[.ref S],[]⟩) (wpAny_bind (wpAny_pure (wpAny_pure ?_)))
 refine wpAny_bind (m:=Builtin.Frozenset.sizeOf S) (wpAny_bind (wpAny_setEntries_of ho hd T.fits (wpAny_pure ?_)))
 refine wpAny_bind (m:=setDrawn S) ?_
 unfold setDrawn
 refine wpAny_bind (wpAny_setState_of ho hd T.fits ?_)
 dsimp only
 refine wpAny_bind (yI (wpAny_pure ?_))
 have z:(!byTx w&&(!t.plain&&decide (es.size > 1)))=false:=by rw [T.pl];simp
 show wpAny _ _ (if (!byTx w&&(!t.plain&&decide (es.size > 1)))=true then _ else _) _ _ _
 rw [z,if_neg Bool.false_ne_true]
 refine wpAny_bind (wpAny_pure (wpAny_bind ?_));unfold setEpoch
 refine wpAny_bind (wpAny_setState_of ho hd T.fits (wpAny_pure ?_))
 exact wpAny_bind (wpAny_newObj_type (wpAny_pure ⟨_,rfl, "set_iterator", _,⟨_,get?_push_size _ rfl,rfl⟩,vp.lookup,q⟩))
theorem FK (hh:A.handled=none){Q:Option Value->Shared->Prop} (q:∀ h',(∀ b o,s.heap.get? b=some o->h'.get? b=some o)->Q none { s with heap:=h' }) :
  wpAny (model prog w) A (newExc (.type "StopIteration") [] >>= λe=>(raiseNew e:Sem PySem.Fin)) (λ_ _=>False) (λe s'=>wpAny (model prog w) A (isInstance e (.type "StopIteration")) (λb fJ=>b=true/\Q none fJ) (λ_ _=>False) s') s:=by
 refine wpAny_bind ?_
 unfold newExc newTuple
 refine wpAny_bind (wpAny_newObj_type (wpAny_bind (m:=firstArgMember _ _) (wpAny_of_eq (a:=Value.none) (by first | rfl | (simp only [firstArgMember];rfl)) (wpAny_newObj_type ?_ (by size_fits)))) (by size_fits))
 unfold raiseNew
 refine wpAny_bind (wpAny_handled ?_);rw [hh]
 refine wpAny_bind (wpAny_pure (wpAny_throw ?_));refine wpAny_isInstance (T := "StopIteration") (b:=true) ⟨_,get?_push_size _ rfl,rfl⟩ isSubtype_stop ⟨rfl,q _ λb o x=>?_⟩
 exact get?_push_of_some _ (get?_push_of_some _ x)
theorem JU {I S:Addr}{es:Array (Int×Value)}{ep k:Nat}{t:SetTable} (T:TabOk t es) (led:t.led=!byTx w) (hI:SitAt s.heap I S (slotAt w t k) k es.size ep) (hS:SetIs s.heap S es ep t) (hk:k < es.size){Q:Option Value->Shared->Prop}
  (q:∀ v h',(walkOf w S ep es)[k]?.map (·.2)=some v->SitAt h' I S (slotAt w t (k+1)) (k+1) es.size ep->KeptBut I s.heap h'->Q (some v) { s with heap:=h' }):wpAny (model prog w) A (pyNext (.ref I)) Q E s:=by
 have hT:=hI.type
 obtain ⟨o,ho,hc,hd⟩:=hI
 obtain ⟨oS,kL,pF,kM⟩:=id hS
 unfold pyNext
 refine wpAny_bind (wpAny_attempt (wpAny_callSpecial?_slot (name:=ofString "__next__") hT vp (wpAny_call_entry vp hT CH ?_ (BX _))))
 refine wpAny_bind (m:=slotArgs "__next__" 0 ⟨[.ref I],[]⟩) (wpAny_pure ?_)
 refine wpAny_bind (wpAny_fieldsOf ho hd ?_);refine wpAny_bind (wpAny_setEntries_of kL kM T.fits ?_)
 rw [if_neg (by simp)]
 dsimp only
 have lt:k < (walkOf w S ep es).size:=by rw [xH];exact hk
 refine wpAny_bind (m:=setNext S _ _ _) ?_
 simp only [Int.toNat_natCast]
 refine B3 T led hS (le_of_lt hk) ?_
 rw [Array.getElem?_eq_getElem lt,map_some]
 dsimp only
 refine wpAny_bind (wpAny_setField ho hd (by simp) ?_);obtain ⟨h1,e1⟩:∃ h1,h1=s.heap.update I (Obj.mapFields (·.setIfInBounds 0 (rawInt ((slotAt w t (k+1):Nat):Int)))):=⟨_,rfl⟩
 have kN:=get?_update_self (Obj.mapFields (·.setIfInBounds 0 (rawInt ((slotAt w t (k+1):Nat):Int)))) ho (Obj.isFreed_of_fields (data_mapFields hd _))
 have kO:=data_mapFields hd (·.setIfInBounds 0 (rawInt ((slotAt w t (k+1):Nat):Int)))
 have k1:KeptBut I s.heap h1:=λb o ne x=>by rw [e1];exact (get?_update_other _ _ (Ne.symm ne)).trans x
 rw [← e1] at kN ⊢
 refine wpAny_bind (wpAny_setField kN kO (by simp) (wpAny_pure ⟨_,rfl,wpAny_pure (q _ _ (by rw [Array.getElem?_eq_getElem lt];rfl) ⟨_,get?_update_self _ kN (Obj.isFreed_of_fields (data_mapFields kO _)),?_,?_⟩ λb o ne x=>(get?_update_other _ _ (Ne.symm ne)).trans (k1 b o ne x))⟩))
 ·exact ((Obj.cls_mapFields ..).trans (Obj.cls_mapFields ..)).trans hc
 ·rw [data_mapFields kO]
  simp [rawInt]
theorem K9 (hh:A.handled=none){I S:Addr}{es:Array (Int×Value)}{ep:Nat}{t:SetTable} (T:TabOk t es) (led:t.led=!byTx w) (hI:SitAt s.heap I S (slotAt w t es.size) es.size es.size ep) (hS:SetIs s.heap S es ep t){Q:Option Value->Shared->Prop}
  (q:∀ h',KeptBut I s.heap h'->Q none { s with heap:=h' }):wpAny (model prog w) A (pyNext (.ref I)) Q E s:=by
 have hT:=hI.type
 obtain ⟨o,ho,hc,hd⟩:=hI
 obtain ⟨oS,kL,pF,kM⟩:=id hS
 unfold pyNext
 refine wpAny_bind (wpAny_attempt (wpAny_callSpecial?_slot (name:=ofString "__next__") hT vp (wpAny_call_entry vp hT CH ?_ (BX _))))
 refine wpAny_bind (m:=slotArgs "__next__" 0 ⟨[.ref I],[]⟩) (wpAny_pure ?_)
 refine wpAny_bind (wpAny_fieldsOf ho hd ?_);refine wpAny_bind (wpAny_setEntries_of kL kM T.fits ?_)
 rw [if_neg (by simp)]
 dsimp only
 refine wpAny_bind (m:=setNext S _ _ _) ?_
 simp only [Int.toNat_natCast]
 refine B3 T led hS (le_refl _) ?_
 rw [getElem?_eq_none (by rw [xH];exact le_refl _),Option.map_none]
 dsimp only
 refine wpAny_bind (wpAny_setField ho hd (by simp) ?_);refine wpAny_mono (FK (A:=A.in1) (s:={ s with heap:=_ }) (Q:=Q) hh λh' keep=>q h' λb o ne x=>keep b o ((get?_update_other _ _ (Ne.symm ne)).trans x)) (λ_ _ x=>x.elim) λe s' h=>?_
 refine wpAny_bind (wpAny_mono (wpAny_of_in1 h) (λb fJ hb=>?_) λ_ _ x=>x.elim)
 obtain ⟨rfl,hq⟩:=hb
 exact wpAny_pure hq
theorem Gr (hh:A.handled=none){I S:Addr} (ne:S≠I){es:Array (Int×Value)}{ep:Nat}{t:SetTable} (T:TabOk t es) (led:t.led=!byTx w) :
  Walks prog w A I [I,S] [I] es.size (λk v=>(walkOf w S ep es)[k]?.map (·.2)=some v) (λk h=>SitAt h I S (slotAt w t k) k es.size ep/\SetIs h S es ep t) where
 sub:=λb hb=>by
  rw [mem_singleton.mp hb]
  exact mem_cons_self
 frame:=λk h h' st keep=>by
  obtain ⟨⟨o,a1,a2⟩,⟨o',b1,b2⟩⟩:=st
  exact ⟨⟨o,keep I (by simp) o a1,a2⟩,⟨o',keep S (by simp) o' b1,b2⟩⟩
 item:=λk s Q E hk st q=>JU T led st.1 st.2 hk λv h' e si kb=>by
  refine q v h' s.toks e ⟨si,?_⟩ λb o nb x=>kb b o (λz=>nb (by rw [z];simp)) x
  obtain ⟨o',b1,b2⟩:=st.2
  exact ⟨o',kb S o' ne b1,b2⟩
 done:=λs Q E st q=>K9 hh T led st.1 st.2 λh' kb=>q h' s.toks λb o nb x=>kb b o (λz=>nb (by rw [z];simp)) x
 self:=λk s Q E st q=>by
  have hT:=st.1.type
  exact wpAny_pyIter_slot hT Db (wpAny_call_entry Db hT ER (wpAny_pure ⟨_,rfl, "set_iterator", _,hT,vp.lookup,q⟩) (Lz _))
end
section
variable {prog:Program}{w:World}{A:Around}{E:Value->Shared->Prop}{s:Shared}
theorem Fx {xs:Array Value}{ae:Array Value} (h:ItemsOf (λk v=>xs[k]?=some v) ae xs.size):ae=xs:=by
 refine Array.ext h.1 λi h1 h2=>?_
 have:=h.2 i ae[i] (Array.getElem?_eq_getElem h1)
 change xs[i]?=some ae[i] at this
 rw [Array.getElem?_eq_getElem h2] at this
 exact Eq.symm (Option.some.inj this)
theorem Hd {S:Addr}{Q:Bool->Shared->Prop} (hT:s.TypeIs (.ref S) "set") (q:Q false s):wpAny (model prog w) A (listLengthHint (.ref S)) Q E s:=by
 unfold listLengthHint;refine wpAny_bind (wpAny_specialOf hT F.slot_set_len.lookup ?_)
 have sp:splitId "set.__len__"=some ("set", "__len__"):=by decide +kernel
 dsimp only
 rw [sp]
 dsimp only
 refine wpAny_bind (wpAny_isInstance hT sub_set_self ?_);rw [if_neg (by decide)]
 exact wpAny_bind (wpAny_typeOf hT (wpAny_pure q))
theorem Mj (hh:A.handled=none){S:Addr}{es:Array (Int×Value)}{ep:Nat}{t:SetTable} (T:TabOk t es) (led:t.led=!byTx w) (hS:SetIs s.heap S es ep t){Q:List Value->Shared->Prop}
  (q:∀ h' tk,(∀ b o,s.heap.get? b=some o->h'.get? b=some o)->s.heap.objs.size<=h'.objs.size->Q ((walkOf w S ep es).toList.map (·.2)) { s with heap:=h',toks:=tk }):wpAny (model prog w) A (collect (.ref S)) Q E s:=by
 have line:310<=sizeLine:=by rw [sizeLine_eq];decide
 have few:es.size<=300:=by have:=T.few;have:=T.sz;omega
 have mN:S < s.heap.objs.size:=by
  obtain ⟨o,ho,_⟩:=hS
  exact lt_size ho
 unfold collect
 refine wpAny_bind (wpAny_runValue (codeAny_builtin F.entry_proto_collect ?_));rw [under_plainId F.plain_proto_collect _]
 refine wpAny_bind (m:=newList []) (wpAny_newObj_type (wpAny_pure ⟨plainId_quiet F.plain_list_iadd _,codeAny_builtin F.entry_list_iadd ?_⟩))
 rw [under_plainId F.plain_list_iadd _];obtain ⟨h1,e1⟩:∃ h1,h1=s.heap.push { cls:=.type "list", data:=.seq ([]:List Value).toArray }:=⟨_,rfl⟩
 have eX:h1.objs.size=s.heap.objs.size+1:=by rw [e1,size_push]
 have fB:∀ b o,s.heap.get? b=some o->h1.get? b=some o:=λb o x=>by rw [e1];exact get?_push_of_some _ x
 have mO:h1.get? s.heap.objs.size=some { cls:=.type "list", data:=.seq ([]:List Value).toArray }:=by rw [e1];exact get?_push_size _ rfl
 rw [← e1]
 have kP:SetIs h1 S es ep t:=by
  obtain ⟨o,ho,r⟩:=hS
  exact ⟨o,fB _ _ ho,r⟩
 have fF:s.heap.objs.size≠S:=ne_of_gt mN
 show wpAny _ A.in1 (listExtendWith (.ref s.heap.objs.size) (.ref S) (.ref s.heap.objs.size)) _ _ { s with heap:=h1 }
 unfold listExtendWith;refine wpAny_bind (wpAny_typeOf (s:={ s with heap:=h1 }) kP.type ?_)
 rw [if_neg (by simp [Builtin.List.listSameRef,fF])]
 refine wpAny_bind (E3 (s:={ s with heap:=h1 }) T kP ?_)
 obtain ⟨I,eI⟩:∃ I,I=h1.objs.size:=⟨_,rfl⟩
 obtain ⟨h2,e2⟩:∃ h2,h2=h1.push { cls:=.type "set_iterator", data:=.fields #[.int 0 0,.int 0 0,.ref S,.int es.size 0,.int ep 0] }:=⟨_,rfl⟩
 have gT:∀ b o,h1.get? b=some o->h2.get? b=some o:=λb o x=>by rw [e2];exact get?_push_of_some _ x
 have mP:SitAt h2 I S (slotAt w t 0) 0 es.size ep:=⟨_,by rw [e2,eI];exact get?_push_size _ rfl,rfl,by unfold slotAt;split<;>rfl⟩
 have mQ:SetIs h2 S es ep t:=by
  obtain ⟨o,ho,r⟩:=kP
  exact ⟨o,gT _ _ ho,r⟩
 show wpAny _ _ _ _ _ { s with heap:=h1.push _ }
 rw [← e2]
 rw [← eI]
 refine wpAny_bind (wpAny_holding (Hd (s:={ s with heap:=h2 }) mQ.type ?_))
 rw [if_pos (by decide +kernel)]
 refine wpAny_bind (wpAny_rule (wpAny_bind (m:=Builtin.List.listTouch (.ref s.heap.objs.size)) ?_))
 have jE:=gT _ _ mO
 refine wpAny_bind (m:=updateSeq s.heap.objs.size (·.push .none)) (wpAny_updateSeq jE rfl ?_ (by simp) (by simp))
 have jF:=get?_update_self (mapSeq (·.push Value.none)) jE rfl
 refine wpAny_updateSeq jF rfl ?_ (by show (#[Value.none]:Array Value).size<=_;simp;omega) (by simp)
 have jG:=get?_update_self (mapSeq (·.pop)) jF rfl
 obtain ⟨h4,e4⟩:∃ h4,h4=((h2.update s.heap.objs.size (mapSeq (·.push Value.none))).update s.heap.objs.size (mapSeq (·.pop))):=⟨_,rfl⟩
 have fL:KeptBut s.heap.objs.size h2 h4:=λb o ne x=>by rw [e4];exact (get?_update_other _ _ (Ne.symm ne)).trans ((get?_update_other _ _ (Ne.symm ne)).trans x)
 rw [← e4] at jG
 show wpAny _ _ _ _ _ { s with heap:=Heap.update (Heap.update h2 _ _) _ _ }
 rw [← e4]
 have iN:s.heap.objs.size≠I:=by rw [eI,eX];exact ne_of_lt (lt_succ_self _)
 have mR:S≠I:=by rw [eI,eX];exact ne_of_lt (lt_succ_of_lt mN)
 have W:=(Gr (prog:=prog) (w:=w) (A:=A.in1) (ep:=ep) (by exact hh) mR T led).toS
 refine wpAny_pure ⟨plainId_quiet F.plain_extend_loop _,codeAny_extend_loopS W (by omega) s.heap.objs.size (by simp [iN,fF]) _ es.size 0 _ _ _ rfl (zero_le _) ?_ jG (ItemsOf.nil _) λs' ae c mv here it=>?_⟩
 ·obtain ⟨o,a1,a2⟩:=mP
  obtain ⟨o',b1,b2⟩:=mQ
  exact ⟨⟨o,fL _ _ (Ne.symm iN) a1,a2⟩,⟨o',fL _ _ (Ne.symm fF) b1,b2⟩⟩
 ·obtain ⟨h',g',d',cH,fW⟩:=s';have eg:g'=s.gens:=mv.gens
  have ed:d'=s.drawn:=mv.drawn
  have eo:fW=s.os:=mv.os
  subst eg;subst ed;subst eo
  refine wpAny_bind (wpAny_load here (wpAny_pure ?_))
  have size:es.size=((walkOf w S ep es).map (·.2)).size:=by rw [Array.size_map,xH]
  have all:ae=(walkOf w S ep es).map (·.2):=Fx (by
   rw [← size]
   refine ⟨it.1,λj v hj=>?_⟩
   have:=it.2 j v hj
   show ((walkOf w S ep es).map (·.2))[j]?=some v
   rw [Array.getElem?_map]
   exact this)
  have lt':s.heap.objs.size < h'.objs.size:=lt_size here
  have:=q h' cH (λb o x=>mv.heap b o (λhb=>?_) (fL b o (ne_of_lt (lt_size x)) (gT _ _ (fB _ _ x)))) (le_of_lt lt')
  ·rw [all]
   simpa using this
  ·have lb:=lt_size x
   rcases mem_cons.mp hb with z | z
   ·exact ne_of_lt lb z
   ·rw [mem_singleton.mp z,eI,eX] at lb
    exact absurd lb (not_lt.mpr (le_succ _))
end
section
variable {prog:Program}{w:World}{A:Around}{E:Value->Shared->Prop}{s:Shared}
noncomputable def fresh0 (w:World):Obj:={ cls:=.type "set", dict:=none,data:=.set #[] 0 (.fresh 0 0 (!byTx w)) }
theorem KM (a:Value){Q:Value->Shared->Prop} (q:Q (.ref s.heap.objs.size) { s with heap:=s.heap.push (fresh0 w) }) :
  codeAny (model prog w) A (.call (.builtin "set.__new__") ⟨[.type "set", a],[]⟩) (wants Q E) s:=by
 refine codeAny_of_tree (wpAny_bind (m:=checkBuiltinCall "set.__new__" ⟨[.type "set", a],[]⟩) (wpAny_of_eq (PySem.F.newCall_set_1 a) (wpAny_pure ⟨plainId_quiet F.plain_set_new _,codeAny_builtin F.entry_set_new ?_⟩)))
 rw [under_plainId F.plain_set_new _];unfold Builtin.«set.__new__» newClass
 have gF:=sub_set_self
 obtain ⟨hp,g,d,tk,os⟩:=s;dsimp only
 wp_walk
 refine wpAny_askSetting (wpAny_pure (wpAny_bind (wpAny_alloc (wpAny_pure (wpAny_pure q)))))
theorem HZ (w:World):TabOk (.fresh 0 0 (!byTx w)) #[]:=by
 refine ⟨rfl,λi j hi=>?_,rfl,λi hi=>?_,⟨zero_le _,.inr (.inr (.inr ⟨rfl,zero_le _⟩))⟩,rfl,λi hi=>?_⟩
 all_goals exact absurd hi (not_lt_zero _)
variable {X:Cx}{aa:List (Addr×Obj)}{U:L2.St}{H:Hp}
theorem Io (I0:Inv X aa U H s) (hh:A.handled=none){l:Addr}{ag:List Value} (hl:s.heap.IsList l ag.toArray){J:Hp} (hJ:∀ d x,Is X.K J d x->Is X.K H d x){ds:List D}{zs:List V} (ha:IsA X.K J ds zs) (hv:Vals zs ag) (ok:SetOk ds) (hu:A.units+50 < cLine){Q:Value->Shared->Prop}
  (q:∀ S s' es,Ext s s'->s.heap.objs.size<=S->SetAt s'.heap S (!byTx w) es->EsOk X J es (dd ds)->Q (.ref S) s'):wpAny (model prog w) A (call (.type "set") [.ref l]) Q E s:=by
 obtain ⟨c,tl,rm⟩:=called_set.mro;have pG:=called_set.made
 have gF:=called_set.sub
 refine wpAny_call (codeAny_of_tree (wpAny_pure ⟨Code.quiet_builtin _ (by decide +kernel),codeAny_builtin F.entry_type_call ?_⟩))
 rw [Around.under_plain (weight_type_call_type "set" [.ref l] []) rfl];have h1:=called_set.notType
 have h2:=called_set.canCreate;have rT:=PySem.F.typeCall_set_1 (.ref l)
 repeat any_goals first | assumption | wp_step
 refine codeAny_mono (KM (w:=w) (.ref l) (E:=E) (Q:=λobj ax=>obj=.ref s.heap.objs.size/\ax={ s with heap:=s.heap.push (fresh0 w) }) ⟨rfl,rfl⟩) λr ax hr=>?_
 rcases r with e | fl
 ·exact hr
 cases fl with
 | ret obj =>
  obtain ⟨rfl,rfl⟩:=hr
  have hS:(s.heap.push (fresh0 w)).get? s.heap.objs.size=some (fresh0 w):=get?_push_size _ rfl
  have hT:Shared.TypeIs { s with heap:=s.heap.push (fresh0 w) } (.ref s.heap.objs.size) "set":=⟨_,hS,rfl⟩
  have mr:=called_set.init.lookup;have mS:=called_set.init.bind (.ref s.heap.objs.size)
  repeat any_goals first | assumption | wp_step
  refine codeAny_mono (codeAny_call_builtin (R:=wants (λr dR=>r=.none/\∃ es,Ext s dR/\SetAt dR.heap s.heap.objs.size (!byTx w) es/\EsOk X J es (dd ds)) E) called_set.init.plain F.entry_set_init (check_set_init_1 hT ?_)) λmT dR eY=>?_
  ·obtain ⟨ol,mU,cr,nl,mV⟩:=hl;have mW:l < s.heap.objs.size:=lt_size mU
   obtain ⟨rn,kQ,pH,iO⟩:=ol;simp only at cr mV
   subst cr;subst mV
   have jH:(s.heap.push (fresh0 w)).get? l=some { cls:=.type "list", dict:=kQ,data:=.seq ag.toArray nl,slots:=iO }:=get?_push_of_some _ mU
   have rp:=PySem.F.sub_list_set
   have rq:=PySem.F.sub_list_frozenset
   have dF:(type "list" == type "dict")=false:=(by decide)
   have cZ:(s.heap.push (fresh0 w)).IsList l ag.toArray:=⟨_,jH,rfl,nl,rfl⟩
   obtain ⟨h1,e1⟩:∃ h1,h1=s.heap.push (fresh0 w):=⟨_,rfl⟩
   have eX:h1.objs.size=s.heap.objs.size+1:=by rw [e1,size_push]
   have fB:∀ b o,s.heap.get? b=some o->h1.get? b=some o:=λb o x=>by rw [e1];exact get?_push_of_some _ x
   rw [← e1] at hS jH cZ
   show wpAny _ _ _ _ _ { s with heap:=s.heap.push (fresh0 w) }
   rw [← e1]
   have pI:h1.get? s.heap.objs.size=some { cls:=.type "set", dict:=none,data:=.set #[] 0 (.fresh 0 0 (!byTx w)) }:=hS
   unfold Builtin.«set.__init__» noKeywords updateFrom;generalize hPI:pyIter=PI
   wp_walk
   subst hPI
   refine wpAny_pyIter_list (s:={ s with heap:=h1 }) cZ (wpAny_bind (wpAny_runValue ?_))
   have iN:l≠h1.objs.size:=by rw [eX];exact ne_of_lt (lt_succ_of_lt mW)
   refine Mf (s0:=s) (led:=!byTx w) I0 (le_refl _) (by rw [eX];exact le_succ _) (Walks.list (by exact hh) h1.objs.size l iN ag.toArray) ?_ hJ ha ok (by rw [size_toArray,← hv.length,← ha.length]) (λi v hi=>?_) (by show A.units+1+1+20 < _;omega) _ 0 _ rfl (zero_le _) ?_ ?_ ?_ λs' es ex sa eo=>?_
   ·rw [eX]
    intro hm
    rcases mem_cons.mp hm with z | z
    ·exact absurd z (ne_of_lt (lt_succ_self _))
    ·exact absurd (mem_singleton.mp z) (ne_of_gt mW)
   ·have ba:ag[i]?=some v:=by simpa using hi
    have li:i < zs.length:=by
     rw [hv.length]
     rcases lt_or_ge i ag.length with z | z
     ·exact z
     ·rw [List.getElem?_eq_none z] at ba;cases ba
    obtain ⟨u,e3,e4⟩:=hv.get (getElem?_eq_getElem li)
    rw [ba] at e3
    cases e3
    exact ⟨_,getElem?_eq_getElem li,e4⟩
   ·exact ⟨_,s.toks,rfl,λb o x=>get?_push_of_some _ (fB b o x)⟩
   ·exact ⟨⟨_,get?_push_size _ rfl,rfl,rfl⟩,cZ.push _⟩
   ·refine ⟨#[],⟨_,0,_,get?_push_of_some _ pI,rfl,rfl,HZ w,rfl⟩,rfl,λe he=>?_,λd hd=>?_⟩
    ·simp at he
    ·cases hd
   ·exact wpAny_pure (wpAny_pure ⟨rfl,es,ex,sa,eo⟩)
  ·rcases mT with e | kT
   ·exact eY
   ·cases kT with
    | ret r =>
     obtain ⟨rfl,es,e1,e2,e3⟩:=eY
     repeat any_goals first | assumption | wp_step
     exact q _ _ es e1 (le_refl _) e2 e3
    | _=>exact eY.elim
 | _=>exact hr.elim
end
theorem IsA.up {K:PySem.W.Frag}{J H:Hp} (h:∀ d x,Is K J d x->Is K H d x):∀ {ds:List D}{zs:List V},IsA K J ds zs->IsA K H ds zs
 | [],zs,a=>by rw [a.nil_inv];exact IsA.nil
 | d::ds,zs,a=>by
  obtain ⟨x,r,rfl,h1,h2⟩:=a.cons_inv
  exact IsA.cons (h _ _ h1) (IsA.up h h2)
section
variable {X:Cx}{aa:List (Addr×Obj)}{U:L2.St}{H:Hp}{s:Shared}{A:Around}
theorem AO {α:Type}:∀ (l m:List α),l.Nodup->(∀ x∈l,x∈m)->m.length<=l.length->l.Perm m
 | [],m,_,_,h=>by rw [length_eq_zero_iff.mp (le_zero.mp h)]
 | x::l,m,nd,h,len=>by
  obtain ⟨a,b,rfl⟩:=List.append_of_mem (h x mem_cons_self)
  rw [nodup_cons] at nd
  have p:=AO l (a++b) nd.2 (λy hy=>by
   have:=h y (mem_cons_of_mem _ hy)
   rcases mem_append.mp this with z | z
   ·exact (mem_append_left _ z)
   ·rcases mem_cons.mp z with z | z
    ·subst z;exact absurd hy nd.1
    ·exact mem_append_right _ z) (by simp at len ⊢;omega)
  exact (p.cons x).trans List.perm_middle.symm
theorem Bi:∀ (ds ae:List D),ae.Nodup->(ds.foldl dstep ae).Nodup
 | [],ae,h=>h
 | d::ds,ae,h=>by
  refine Bi ds _ ?_
  unfold dstep
  split
  ·exact h
  ·rename_i no
   rw [nodup_append]
   refine ⟨h,by simp,λa ha b hb e=>?_⟩
   rw [mem_singleton.mp hb] at e
   subst e
   exact no (any_eq_true.mpr ⟨a,ha,wG a⟩)
theorem El (ds:List D):(dd ds).Nodup:=Bi ds [] nodup_nil
theorem Iu {l m:List D} (p:l.Perm m) (cm:cmAll l=true):sortD l=sortD m:=by
 refine xa _ _ ((uX l).trans (p.trans (uX m).symm)) (uD l) (uD m) λa ha b hb h1 h2=>?_
 have c:=all_eq_true.mp (all_eq_true.mp cm a ((uX l).mem_iff.mp ha)) b ((uX l).mem_iff.mp hb)
 refine wM a b c ?_
 rw [vP a b c]
 unfold leD at h1 h2
 rw [h1,h2]
 rfl
theorem EA {n:Nat}:∀ {xs:List D},(∀ x∈xs,dep x<=n)->depA xs<=n
 | [],_=>by rw [depA];exact zero_le _
 | x::xs,h=>by
  rw [depA]
  exact Nat.max_le.mpr ⟨h x mem_cons_self,EA λy hy=>h y (mem_cons_of_mem _ hy)⟩
theorem Bc {J:Hp}{M:List D}:∀ (L:List (Int×Value)),(∀ e∈L,∃ d∈M,Stn X J e d)->∃ ds zs,IsA X.K J ds zs/\Vals zs (L.map (·.2))/\ds.length=L.length/\(∀ d∈ds,d∈M)/\∀ e∈L,∃ d∈ds,Stn X J e d
 | [],_=>⟨[],[],IsA.nil,.nil,rfl,λd hd=>(by cases hd),λe he=>(by cases he)⟩
 | e::L,h=>by
  obtain ⟨ds,zs,a1,a2,a3,a4,a5⟩:=Bc L λe he=>h e (mem_cons_of_mem _ he)
  obtain ⟨d,m,q⟩:=h e mem_cons_self
  obtain ⟨_,x,q1,q2⟩:=id q
  refine ⟨d::ds,x::zs,IsA.cons q1 a1,.cons q2 a2,by simp [a3],λd' bK=>?_,λe' dZ=>?_⟩
  ·rcases mem_cons.mp bK with z | z
   ·rw [z];exact m
   ·exact a4 d' z
  ·rcases mem_cons.mp dZ with z | z
   ·rw [z];exact ⟨d,mem_cons_self,q⟩
   ·obtain ⟨d',m',q'⟩:=a5 e' z
    exact ⟨d',mem_cons_of_mem _ m',q'⟩
theorem Fo (hu:X.A.units+100 < cLine) (hh:X.A.handled=none) (I:Inv X aa U H s){p:Addr}{J:Hp} (hJ:∀ d x,Is X.K J d x->Is X.K H d x){zs:List V}{ds:List D} (hq:SqL X.K H p zs) (ha:IsA X.K J ds zs) (ok:SetOk ds)
  (kd:ds.all fstI=true\/ds.all fstT=true){Q:VK} (k:∀ l eB,IsA X.K J (sortD (dd ds)) eB->H l=none->Q (.ref l) (upd H l (.lst eB))) :
  wpAny (model X.prog X.w) X.A (call (.type "set") [.ref p]) (λv s'=>wpAny (model X.prog X.w) X.A (call (.builtin "sorted") [v]) (EP X aa U Q) X.xe s') X.xe s:=by
 obtain ⟨ac,rv,t,hz⟩:=I.list hq
 refine Io I hh t.isList hJ ha rv ok (by omega) λS s' es ex le sa eo=>?_
 have I':=ex.inv I
 obtain ⟨cm,ky,ti,dp,few⟩:=ok
 obtain ⟨o,ep,tb,ho,hc,hd,T,led⟩:=sa
 obtain ⟨dD,eB,a1,a2,a3,a4,a5⟩:=Bc (X:=X) (J:=J) (M:=dd ds) (walkOf X.w S ep es).toList λe he=>eo.2.1 e (by
  have:=(zd X.w S ep es).mem_iff.mp he
  simpa using this)
 have tt:∀ d∈dd ds,isT d=true:=λd hd=>all_eq_true.mp ti _ (wN hd)
 have pm:(dd ds).Perm dD:=by
  refine AO _ _ (El ds) (λd hd=>?_) (by rw [a3,length_toList,xH,eo.1];exact le_refl _)
  obtain ⟨e,m,q⟩:=eo.2.2 d hd
  obtain ⟨d',m',q'⟩:=a5 e ((zd X.w S ep es).mem_iff.mpr (by simpa using m))
  have:=Stn.det I' (tt d hd) (tt d' (a4 d' m')) (q.up hJ) (q'.up hJ)
  rw [this]
  exact m'
 have sub:∀ d∈dD,d∈ds:=λd hd=>wN (a4 d hd)
 have iM:cmAll dD=true:=all_eq_true.mpr λa pJ=>all_eq_true.mpr λb pK=>all_eq_true.mp (all_eq_true.mp cm a (sub a pJ)) b (sub b pK)
 have pL:IsA X.K H dD eB:=IsA.up hJ a1
 refine Dz hu I' pL a2 ⟨by have:=pm.length_eq;omega,iM,le_trans (EA λx hx=>uC (sub x hx)) (by omega),?_⟩ (λQ' q=>Mj (A:=X.A.in1) (by exact hh) T led ⟨o,ho,hc,hd⟩ q) λl q hp e hl=>k l _ ?_ hl
 ·rcases kd with z | z
  ·exact .inr (.inl (all_eq_true.mpr λx hx=>all_eq_true.mp z x (sub x hx)))
  ·exact .inr (.inr (all_eq_true.mpr λx hx=>all_eq_true.mp z x (sub x hx)))
 ·rw [← Iu pm.symm iM,← e]
  exact a1.perm hp
end
section
variable {X:Cx}{B:BB}{e:Expr}{pos aH:Pos}{kr:Nat}
def rSS (X:Cx) (xs:List V) (H:Hp) (Q:VK):Prop:=∃ (p:Addr) (zs:List V) (ds:List D) (J:Hp),xs=[.ref p]/\SqL X.K H p zs/\IsA X.K J ds zs/\(∀ d x,Is X.K J d x->Is X.K H d x)/\SetOk ds/\(ds.all fstI=true\/ds.all fstT=true) ∧
 ∀ l eB,IsA X.K J (sortD (dd ds)) eB->H l=none->Q (.ref l) (upd H l (.lst eB))
theorem Lr {p p':Pos}{t:TA} (hr:Room kr X.A) (hg:Gl X "sorted") (hm:X.mg "sorted"=none) (kU:Gl X "set") (fO:X.mg "set"=none) (ha:PA X [e] t)
  (he:starEach [e] X.env=(false,eval e X.env)::starEach [] X.env:=by rfl) (dZ:starEach [.Call (.Name "set" p') [e] [] aH] X.env=(false,eval (.Call (.Name "set" p') [e] [] aH) X.env)::starEach [] X.env:=by rfl)
  (az:∀ pos,(backTo pos (starEach [] X.env)).any (·.1)=false:=by intro _;rfl) :
  PE X (.Call (.Name "sorted" p) [.Call (.Name "set" p') [e] [] aH] [] pos) (tCB (rSS X) t):=by
 intro aa s U H Q I h
 refine wpAny_Call_Name_kw (uy I hg hm boot_sorted (PyProof.Rows.callWith_builtin1 ?_ dZ (az _)) (by decide) (by decide))
 rw [dZ]
 refine Calls.spliced_cons (wpAny_Call_Name_kw (uy I kU fO boot_set (PyProof.Rows.callWith_type1 ?_ he (az _)) (by decide) (by decide)))
 refine thn (ha aH aa s U H _ I h) λus s1 ⟨vs,H1,I1,r1,p,zs,ds,J,e1,q1,q2,q3,q4,q5,q6⟩=>?_
 subst e1
 obtain ⟨u,rfl,ru⟩:=vals1 r1
 cases ru
 exact thn (Fo (hu100 hr) hr.hd I1 q3 q1 q2 q4 q5 q6) λv s2 q=>Calls.spliced_nil q
noncomputable def setF (ds:List D):Option (List D):=match ds with
 | [.lst xs]=>if (cmAll xs=true/\xs.all kyB=true/\xs.all isT=true/\depA xs<=8/\(dd xs).length<=18)/\(xs.all fstI=true\/xs.all fstT=true) then some (sortD (dd xs)) else none
 | _=>none
theorem Eo {p p':Pos}{t:M (List D)} (hr:Room kr X.A) (hg:Gl X "sorted") (hm:X.mg "sorted"=none) (kU:Gl X "set") (fO:X.mg "set"=none) (ha:AD X B [e] t)
  (he:starEach [e] X.env=(false,eval e X.env)::starEach [] X.env:=by rfl) (dZ:starEach [.Call (.Name "set" p') [e] [] aH] X.env=(false,eval (.Call (.Name "set" p') [e] [] aH) X.env)::starEach [] X.env:=by rfl)
  (az:∀ pos,(backTo pos (starEach [] X.env)).any (·.1)=false:=by intro _;rfl) :
  EO X B (.Call (.Name "sorted" p) [.Call (.Name "set" p') [e] [] aH] [] pos) (fn1 setF t):=PE.imp (Lr hr hg hm kU fO ha he dZ az) (zL λds d e B G I H U Y xs Q r h k=>by
 unfold setF at e
 split at e
 ·obtain ⟨ok,rfl⟩:=tJ e
  obtain ⟨x,rfl,hx⟩:=h.one
  obtain ⟨q,zs,rfl,h3,h4⟩:=tm hx
  exact ⟨q,zs,_,I,rfl,(Same.rdK r.iH h3).sq,h4,λd x hx=>hx.mono r.iH,⟨ok.1.1,ok.1.2.1,ok.1.2.2.1,ok.1.2.2.2.1,by have:=ok.1.2.2.2.2;omega⟩,ok.2,λl eB hz hl=>k.new r hl hz⟩
 ·cases e)
end
end DL
namespace DL
open PySem PySem.W PySem.Spec PyProof.Rows L2
section
variable {X:Cx}{B:BB}{a st e:Expr}{pos p p2:Pos}{ga gs:M D}
noncomputable def rRv (K:PySem.W.Frag):R2:=λx y H Q=>∃ b xs,x=.ref b/\y=.int (-1)/\SqL K H b xs/\∀ l,H l=none->Q (.ref l) (upd H l (.lst xs.reverse))
theorem Vals.rev:∀ {xs:List V}{us:List Value},Vals xs us->Vals xs.reverse us.reverse:=λ{xs us} h=>by
 refine xx (by simp [h.length]) λi x u e f=>?_
 have l:=h.length
 have hi:i < xs.length:=by
  rcases lt_or_ge i xs.length with z | z
  ·exact z
  ·rw [List.getElem?_eq_none (by simpa using z)] at e;cases e
 rw [List.getElem?_reverse hi] at e
 rw [List.getElem?_reverse (by omega)] at f
 obtain ⟨u',e1,e2⟩:=h.get e
 rw [l,f] at e1
 cases e1
 exact e2
theorem Mv {ta ts:TE} (he:PE X a ta) (hs:PE X st ts):PE X (.Subscript a (.Slice none none (some st) p2) pos) (tOp (rRv X.K) ta ts):=by
 intro aa s U H Q I h
 refine Subscript_ (thn (he aa s U H _ I h) λv s1 ⟨x,H1,I1,r1,q1⟩=>?_)
 refine wpAny_Slice ?_
 rw [evalPart_none,evalPart_some]
 refine wpAny_pure (wpAny_pure (thn (hs aa s1 U H1 _ I1 q1) λvk s2 ⟨y,H2,I2,r2,q2⟩=>?_))
 obtain ⟨b,xs,rfl,rfl,hx,q⟩:=q2
 cases r1
 have I3:Inv X aa U H2 { s2 with heap:=s2.heap.push { cls:=.type "slice", data:=.fields #[.none,.none,vk] } }:=I2.kept (t':=s2.toks) λb ob q=>get?_push_of_some _ q
 obtain ⟨ac,r,ht,hz⟩:=I3.list hx
 have aJ:=r.length
 show wpAny (model X.prog X.w) X.A (subscriptTail a (.Slice none none (some st) p2) (.ref b) (.ref s2.heap.objs.size)) (EP X aa U Q) X.xe { s2 with heap:=s2.heap.push { cls:=.type "slice", data:=.fields #[.none,.none,vk] } }
 refine tail_any (ops:=[.ref b,.ref s2.heap.objs.size]) ht.isList.typeIs slot_list_getitem.lookup ?_ (by with_unfolding_all rfl)
 obtain ⟨tk,rfl⟩:=r2
 refine wpAny_getItem_list_slice ht.isList (Heap.IsSliceOf.new ..) .none .none (.int _ _) (by simp) ?_ (by rw [size_toArray]<;>omega)
 rw [krv_pick]
 refine ⟨.ref _,_,I3.laid (t':=s2.toks) (o:=.lst xs.reverse) (λb ob q=>get?_push_of_some _ q) (le_refl _) ?_,rfl,q _ (I3.hok.fresh (le_refl _))⟩
 exact ⟨by rw [List.length_reverse];exact hz,_,0,Vals.rev r,get?_push_size _ rfl⟩
noncomputable def rvF (c k:D):Option (List D):=match c,k with
 | .lst ds,.int j=>if j=-1 then some ds.reverse else none
 | _,_=>none
theorem BR (ha:ED X B a ga) (hs:ED X B st gs):EO X B (.Subscript a (.Slice none none (some st) p2) pos) (op2 rvF ga gs):=PE.imp (Mv ha hs) (BP λa b d e B G I H U Y x y Q r hx hy k=>by
 unfold rvF at e
 split at e
 ·obtain ⟨rfl,rfl⟩:=tJ e
  obtain ⟨q,zs,rfl,h3,h4⟩:=tm hx
  exact ⟨q,zs,rfl,sV hy,(Same.rdK r.iH h3).sq,λl hl=>k.new r hl h4.reverse⟩
 ·cases e)
end
section
variable {X:Cx}{B:BB}{a:Expr}{pos p1:Pos}{ga:M D}{kr:Nat}
noncomputable def inN (neg:Bool) (i:Nat) (g:M D):M D:=bnd g λd=>bnd (look i) λl=>lft (inF neg d l)
theorem FF {K:PySem.W.Frag}{neg:Bool}{i:Nat}:∀ U H Q,tD K B (inN neg i ga) U H Q->tOp (rInD K neg) (tD K B ga) (tVar i) U H Q:=λU H Q q=>by
 obtain ⟨G,I,Y,d,af,r,e1,k⟩:=q
 obtain ⟨n,ab,e2,e3⟩:=sN e1
 obtain ⟨l,ah,e4,e5⟩:=sN e3
 obtain ⟨e6,rfl⟩:=tx e5
 refine ⟨G,I,Y,n,ab,r,e2,λv H1 I1 r1 g1 hn=>?_⟩
 obtain ⟨rfl,p,xs,ds,rfl,f1,f2,f3⟩:=wS e4 r1
 obtain ⟨hd,rfl⟩:=tJ e6
 exact ⟨.ref p,f1,n,ds,hn.mono r1.iH,.inl (Is.lst (RdK.of f2) (f3.mono r1.iH)),hd,(k.after g1).now r1 (Is.bl _)⟩
theorem LS {i:Nat}{x:Str} (hr:Room kr X.A) (ha:ED X B a ga) (hv:PE X (.Name x p1) (tVar i)):TD X B (.Compare a [.NotIn] [.Name x p1] pos) (tst (inN true i ga)):=PT.imp (AQ (CW (hu100 hr)) ha hv rfl) (xo FF)
end
section
variable {X:Cx}{B:BB}{pos:Pos}{c:Expr}{body:List Stmt}{gc:M Bool}{gb:M Fl}
noncomputable def whlS:Nat->M Bool->M Fl->M Fl
 | 0,_,_=>λ_=>none
 | n+1,c,b=>bnd c λk=>if k=true then bnd b λf=>match f with
   | .nx=>whlS n c b
   | .ct=>whlS n c b
   | .bk=>ret .nx
   | .rt r=>ret (.rt r)
  else ret .nx
theorem G2 {n:Nat} (hp:PassesOwn (model X.prog X.w) X.A X.env X.xe) (hc:TD X B c gc) (hb:SDs X B body gb):SD X B (.While c body [] pos) (whlS n gc gb):=PS.imp (LG hp hc hb) λE U H q=>by
 obtain ⟨G,I,Y,f,af,r,e1,k⟩:=q
 refine ⟨λm U H=>∃ I2 ah,Rep X.K B G I2 H U ah/\Grow G I I2/\whlS m gc gb ah=some (f,af),⟨n,I,Y,r,Grow.refl _ _,e1⟩,?_⟩
 rintro m aW H2 ⟨I2,ah,r2,g2,e2⟩
 cases m with
 | zero=>cases e2
 | succ m =>
  obtain ⟨b,aR,e3,e4⟩:=sN e2
  refine ⟨G,I2,ah,b,aR,r2,e3,λH3 I3 r3 g3=>?_⟩
  cases b with
  | true =>
   rw [if_pos rfl] at e4 ⊢
   obtain ⟨fl,aP,e5,e6⟩:=sN e4
   refine ⟨λaj H'=>∃ I4,Rep X.K B G I4 H' aj aP/\Grow G I I4/\(fl=.nx\/fl=.ct),λaj H' ⟨I4,r4,g4,hf⟩=>⟨m,lt_succ_self m,I4,aP,r4,g4,?_⟩,G,I3,aR,fl,aP,r3,e5,λde H5 I5 r5 g5=>?_⟩
   ·rcases hf with rfl | rfl<;>exact e6
   ·have gg:Grow G I I5:=g2.trans (g3.trans g5)
    cases fl with
    | nx=>exact ⟨I5,r5,gg,.inl rfl⟩
    | ct=>exact ⟨I5,r5,gg,.inr rfl⟩
    | bk=>cases e6;exact k de H5 I5 r5 gg
    | rt v=>cases e6;exact k de H5 I5 r5 gg
  | false =>
   rw [if_neg Bool.false_ne_true] at e4 ⊢
   cases e4
   exact k aW H3 I3 r3 (g2.trans g3)
end
end DL
namespace DL
open PySem
end DL
namespace DL
open PySem PySem.W PySem.Spec PyProof.Rows L2
section
variable {X:Cx}{B:BB}{pos:Pos}{c e:Expr}{st:Stmt}{ss sa sb body:List Stmt}{g h:M Fl}{tc:M Bool}{ga:M D}
@[irreducible] def SI (X:Cx) (B:BB) (st:Stmt) (g:M Fl):Prop:=SD X B st g
@[irreducible] def SIs (X:Cx) (B:BB) (ss:List Stmt) (g:M Fl):Prop:=SDs X B ss g
theorem sJ (k:SD X B st g):SI X B st g:=by unfold SI;exact k
theorem tq (k:SIs X B ss g):SDs X B ss g:=by unfold SIs at k;exact k
theorem sY:SIs X B [] (ret .nx):=by unfold SIs;exact GW
theorem sL (k:SI X B st g):SIs X B [st] g:=by unfold SI at k;unfold SIs;exact LZ k
theorem sF (k:SI X B st g) (t:SIs X B ss h):SIs X B (st::ss) (seqS g h):=by unfold SI at k;unfold SIs at t ⊢;exact ET k t
theorem sX (hc:TD X B c tc) (ha:SIs X B sa g) (hb:SIs X B sb h):SI X B (.If c sa sb pos) (ifS tc g h):=by unfold SIs at ha hb;unfold SI;exact IV hc ha hb
theorem tN {m:Nat}{iter tg:Expr}{it:M (List D)}{aB:D->M Unit} (hp:PassesOwn (model X.prog X.w) X.A X.env X.xe) (hc:X.calm=true) (hi:ITD X B tg iter it) (hg:GD X B m tg aB) (hb:SIs X B body g)
  (hs:∀ x,foldedSetIterable iter X.env x=pure x:=by intro _;rfl):SI X B (.For tg iter body [] pos) (forS it aB g):=by unfold SIs at hb;unfold SI;exact KJ hp hc hi hg hb hs
theorem IG {n:Nat}{gc:M Bool} (hp:PassesOwn (model X.prog X.w) X.A X.env X.xe) (hc:TD X B c gc) (hb:SIs X B body g):SI X B (.While c body [] pos) (whlS n gc g):=by unfold SIs at hb;unfold SI;exact G2 hp hc hb
theorem sP {i:Nat}{x:Str}{aH:Pos} (hN:X.N.Nodup) (he:ED X B e ga) (hi:X.N[i]?=some x:=by rfl) (hx:locB X.env.scope x=true:=by rfl) (hs:swapsWith e (some (.Name x aH)) pos.line X.env=pure false:=by rfl)
  (hf:fnB X x=true:=by rfl):SI X B (.Assign [.Name x aH] e pos) (setV i ga):=by unfold SI;exact Ja hN he hi hx hs hf
end
mutual
noncomputable def pd:D->PyData
 | .non=>.none
 | .bl b=>.bool b
 | .int i=>.int i
 | .str x=>.str x
 | .tup ds=>.tuple (pdA ds)
 | .lst ds=>.list (pdA ds)
noncomputable def pdA:List D->List PyData
 | []=>[]
 | d::ds=>pd d::pdA ds
end
section
variable {X:Cx}{aa:List (Addr×Obj)}{U:L2.St}{H:Hp}{s:Shared}
mutual
theorem Bt (I:Inv X aa U H s):∀ (d:D) (x:V) (u:Value),Is X.K H d x->RelV x u->∃ as,Reads s.heap u (pd d) as
 | .non,x,u,h,r=>by rw [uf h] at r;cases r;rw [pd];exact ⟨_,.none⟩
 | .bl b,x,u,h,r=>by rw [tV h] at r;cases r;rw [pd];exact ⟨_,.bool b⟩
 | .int i,x,u,h,r=>by rw [sV h] at r;obtain ⟨t,rfl⟩:=r;rw [pd];exact ⟨_,.int i t⟩
 | .str z,x,u,h,r=>by rw [uo h] at r;obtain ⟨t,rfl⟩:=r;rw [pd];exact ⟨_,.str z t⟩
 | .tup ds,x,u,h,r=>by
  obtain ⟨a,xs,rfl,h1,h2⟩:=sZ h
  cases r
  obtain ⟨ac,r1,t1,_⟩:=I.tuple h1
  obtain ⟨o,e1,e2,n,e3⟩:=t1
  obtain ⟨as,q⟩:=Aa I ds xs ac h2 r1
  rw [pd]
  exact ⟨_,.tuple e1 e2 e3 (by simpa using q)⟩
 | .lst ds,x,u,h,r=>by
  obtain ⟨a,xs,rfl,h1,h2⟩:=tm h
  cases r
  obtain ⟨ac,r1,t1,_⟩:=I.list h1.sq
  obtain ⟨o,e1,e2,n,e3⟩:=t1.isList
  obtain ⟨as,q⟩:=Aa I ds xs ac h2 r1
  rw [pd]
  exact ⟨_,.list e1 e2 e3 (by simpa using q)⟩
theorem Aa (I:Inv X aa U H s):∀ (ds:List D) (xs:List V) (us:List Value),IsA X.K H ds xs->Vals xs us->∃ as,ReadsAll s.heap us (pdA ds) as
 | [],xs,us,h,r=>by
  have:=h.nil_inv;subst this
  cases r
  rw [pdA]
  exact ⟨_,.nil⟩
 | d::ds,xs,us,h,r=>by
  obtain ⟨x,xr,rfl,h1,h2⟩:=h.cons_inv
  cases r with
  | cons r1 r2 =>
   obtain ⟨as,q1⟩:=Bt I d x _ h1 r1
   obtain ⟨bs,q2⟩:=Aa I ds xr _ h2 r2
   rw [pdA]
   exact ⟨_,.cons q1 q2⟩
end
mutual
theorem Eh:∀ d:D,(pd d).hasDict=false
 | .non=>by rw [pd,hasDict]
 | .bl _=>by rw [pd,hasDict]
 | .int _=>by rw [pd,hasDict]
 | .str _=>by rw [pd,hasDict]
 | .tup ds=>by rw [pd,hasDict];exact yA ds
 | .lst ds=>by rw [pd,hasDict];exact yA ds
theorem yA:∀ ds:List D,hasDictAll (pdA ds)=false
 | []=>by rw [pdA,hasDictAll]
 | d::ds=>by rw [pdA,hasDictAll,Eh d,yA ds];rfl
end
def RepOk (d:D):Prop:=(pd d).showable=true/\(pd d).depth<=50/\(pd d).shown.length<=sizeLine
theorem HN (hu:X.A.units+100 < cLine) (hg:X.A.guards=some []):CallR X (.builtin "repr") (λxs H Q=>∃ d x,xs=[x]/\Is X.K H d x/\RepOk d/\Q (.str (pd d).shown) H):=by
 intro aa s U H xs us Q I r h
 obtain ⟨d,x,rfl,hx,⟨kW,rV,kX⟩,q⟩:=h
 obtain ⟨u,rfl,ru⟩:=vals1 r
 obtain ⟨as,rd⟩:=Bt I d x u hx ru
 have dg:∀ a,u=.ref a->wpAny (model X.prog X.w) X.A (call (.builtin "repr") [u]) (EP X aa U Q) X.xe s:=λa e=>by
  subst e
  exact repr_of_reads' rd kW (λz=>by rw [Eh d] at z;cases z) hg (by omega) (λb o x=>x) (λh' v tk keep=>⟨.str _,H,I.kept (t':=tk) keep,⟨_,rfl⟩,q⟩) kX
 cases d with
 | non =>
  rw [uf hx] at ru
  cases ru
  exact PySem.P.repr_of_none ⟨.str _,H,I.tok _,⟨_,rfl⟩,by rw [pd,PyData.shown] at q;exact q⟩
 | bl b =>
  rw [tV hx] at ru
  cases ru
  exact PySem.P.repr_of_bool ⟨.str _,H,I.tok _,⟨_,rfl⟩,by rw [pd,PyData.shown] at q;exact q⟩
 | int i =>
  rw [sV hx] at ru
  obtain ⟨t,rfl⟩:=ru
  rw [pd,showable] at kW
  exact PySem.P.repr_of_int (by simpa using kW) ⟨.str _,H,I.tok _,⟨_,rfl⟩,by rw [pd,PyData.shown] at q;exact q⟩
 | str z =>
  rw [uo hx] at ru
  obtain ⟨t,rfl⟩:=ru
  rw [pd,PyData.shown] at kX q
  exact PySem.P.repr_of_str ⟨.str _,H,I.tok _,⟨_,rfl⟩,q⟩ kX
 | tup ds =>
  obtain ⟨a,xs,rfl,_⟩:=sZ hx
  cases ru
  exact dg a rfl
 | lst ds =>
  obtain ⟨a,xs,rfl,_⟩:=tm hx
  cases ru
  exact dg a rfl
end
end DL
namespace DL
open PySem PySem.W PySem.Spec PyProof.Rows L2
end DL
namespace DL
open PySem PySem.W PySem.Spec PyProof.Rows L2
open PySem.SeqAt
open PySem.AutoSeq1 (wpAny_loadPart')
open PySem.MeetsSeq PySem.MeetsSeq2 PySem.MeetsSeq3
end DL
namespace DL
open PySem PySem.W PySem.Spec PyProof.Rows L2
end DL
namespace DL
open PySem PySem.W PySem.Spec PyProof.Rows L2
open PySem.SeqAt
open PySem.AutoSeq1 (wpAny_loadPart')
open PySem.MeetsSeq PySem.MeetsSeq2 PySem.MeetsSeq3
section
variable {X:Cx}{B:BB}{e a b st:Expr}{es:List Expr}{pos p p2:Pos}{t:M (List D)}{ga gb gs:M D}{kr:Nat}
noncomputable def reprG (ds:List D):Option D:=match ds with
 | [d]=>if (pd d).showable=true/\(pd d).depth<=50/\(pd d).shown.length<=sizeLine then some (.str (pd d).shown) else none
 | _=>none
theorem xN (hr:Room kr X.A) (hg:Gl X "repr") (hm:X.mg "repr"=none) (ha:AD X B [e] t) (he:starEach [e] X.env=(false,eval e X.env)::starEach [] X.env:=by rfl) (az:(backTo pos (starEach [] X.env)).any (·.1)=false:=by rfl) :
  ED X B (.Call (.Name "repr" p) [e] [] pos) (fn1 reprG t):=uG (HN (hu100 hr) hr.gd) (λds d e B G I H U Y xs Q r h k=>by
 unfold reprG at e
 split at e
 ·obtain ⟨ok,rfl⟩:=tJ e
  obtain ⟨x,rfl,hx⟩:=h.one
  exact ⟨_,x,rfl,hx.mono r.iH,ok,k.now r (Is.str _)⟩
 ·cases e) hg hm boot_repr ha (by decide) (by decide) he az
end
def isStar:Expr->Bool
 | .Starred ..=>true
 | _=>false
theorem EL {e:Expr}{am:List Expr}{env:Env} (h:isStar e=false):starEach (e::am) env=(false,eval e env)::starEach am env:=by
 cases e<;>first | rfl | (simp [isStar] at h)
theorem f' {X:Cx}{B:BB}{e:Expr}{es:List Expr}{g:M D}{t:M (List D)} (ha:ED X B e g) (hr:AD X B es t) (h:isStar e=false):AD X B (e::es) (consA g t):=KW ha hr (EL h)
end DL
namespace DL
open PySem PySem.Spec PyProof.Rows L2
section
variable {X:Cx}{B:BB}
theorem uP {e1 e2 e3 e4:Expr}{es:List Expr}{g1 g2 g3 g4:M D}{t:M (List D)} (h1:ED X B e1 g1) (h2:ED X B e2 g2) (h3:ED X B e3 g3) (h4:ED X B e4 g4) (hr:AD X B es t) (s1:isStar e1=false) (s2:isStar e2=false) (s3:isStar e3=false) (s4:isStar e4=false):AD X B (e1::e2::e3::e4::es) (consA g1 (consA g2 (consA g3 (consA g4 t)))) :=
 f' h1 (f' h2 (f' h3 (f' h4 hr s4) s3) s2) s1
end
inductive KCs:List Expr->M (List D)->Prop
 | nil:KCs [] nilA
 | int {i:Int} {a b es t}:KCs es t->KCs (.Constant (.int i) a b::es) (consA (ret (.int i)) t)
 | bl {i:Bool} {a b es t}:KCs es t->KCs (.Constant (.bool i) a b::es) (consA (ret (.bl i)) t)
 | non {a b es t}:KCs es t->KCs (.Constant .none a b::es) (consA (ret .non) t)
 | str {i:Str} {a b es t}:KCs es t->KCs (.Constant (.str i) a b::es) (consA (ret (.str i)) t)
 | tup {fs u x p es t}:KCs fs u->KCs es t->KCs (.Tuple fs x p::es) (consA (tupA u) t)
end DL
namespace DL
open PySem PySem.W PySem.Spec PyProof.Rows L2 PySem.SetTable
section
variable {X:Cx}{B:BB}{e:Expr}{pos aH:Pos}{kr:Nat}
theorem yo:∀ {ns:List Int}{ac:List Value},Vals (ns.map V.int) ac->IntsAre ac ns
 | [],ac,h=>by cases h;exact .nil
 | n::ns,ac,h=>by
  cases h with
  | cons h1 h2=>obtain ⟨t,rfl⟩:=h1;exact .cons _ _ (yo h2)
noncomputable def intsD:List D->Option (List Int)
 | []=>some []
 | .int i::ds=>match intsD ds with
  | some ns=>some (i::ns)
  | none=>none
 | _=>none
theorem zg:∀ {ds:List D}{ns:List Int},intsD ds=some ns->ds=ns.map D.int
 | [],ns,h=>by cases h;rfl
 | d::ds,ns,h=>by
  cases d<;>try cases h
  rename_i i
  rw [intsD] at h
  cases e:intsD ds with
  | none=>rw [e] at h;cases h
  | some ms=>rw [e] at h;cases h;rw [map_cons,← zg e]
theorem Ae:∀ (ns:List Int),intsD (ns.map D.int)=some ns
 | []=>rfl
 | n::ns=>by rw [map_cons,intsD,Ae ns]
theorem yt {K:PySem.W.Frag}{I:Hp}:∀ {ns:List Int}{zs:List V},IsA K I (ns.map D.int) zs->zs=ns.map V.int
 | [],zs,h=>h.nil_inv
 | n::ns,zs,h=>by
  obtain ⟨x,r,rfl,h1,h2⟩:=IsA.cons_inv h
  rw [yt h2,sV h1];rfl
variable {a b c c':Expr}{ga gb gc gd:M D}
end
theorem Aq:∀ {vs:List Value}{ns:List Int}{i:Nat}{v:Value},IntsAre vs ns->vs[i]?=some v->∃ x t,ns[i]?=some x/\v=.int x t
 | _,_,i,v,.nil,h=>by simp at h
 | _,_,0,v,.cons _ _ r,h=>by cases h;exact ⟨_,_,rfl,rfl⟩
 | _,_,i+1,v,.cons _ _ r,h=>by
  rw [getElem?_cons_succ] at h
  obtain ⟨x,t,h1,h2⟩:=Aq r h
  exact ⟨x,t,by rw [getElem?_cons_succ];exact h1,h2⟩
end DL
namespace DL
open PySem PySem.W PySem.Spec PyProof.Rows L2
def mx (m y:Int):Int:=if m < y then y else m
noncomputable def maxI (d:Int):List Int->Int
 | []=>d
 | x::xs=>xs.foldl mx x
theorem G4 (d:Int){ns:List Int} (ne:ns≠[]) (y:Int):maxI d (ns++[y])=mx (maxI d ns) y:=by
 match ns,ne with
 | x::xs,_=>simp [maxI,foldl_append]
section
variable {prog:Program}{w:World}{A:Around}{E:Value->Shared->Prop}{s:Shared}
theorem AK {id:String}{b:Builtin}{args:List Value}{kw:List (Str×Value)}{Q:Value->Shared->Prop} (hk:builtinKind id=none) (hp:plainId id=true) (hb:entryFor table id=some b) (ha:argsOk id ⟨args,kw⟩)
  (hc:wpAny (model prog w) A.in1 (b ⟨args,kw⟩) (λr s'=>match r with
   | .again d=>d.quiet=true/\codeAny (model prog w) A d (wants Q E) s'
   | .done f=>wants Q E (.ok f) s') E s):wpAny (model prog w) A (call (.builtin id) args kw) Q E s:=by
 have ck:checkBuiltinCall id ⟨args,kw⟩=pure ():=by
  unfold argsOk at ha
  unfold checkBuiltinCall
  rw [hk]
  revert ha
  cases Manifest.signature? id with
  | none=>exact λ_=>rfl
  | some sg=>exact λha=>ha
 refine wpAny_call (codeAny_call_builtin hp hb (wpAny_of_eq ck ?_))
 exact wpAny_mono hc (λr s' h=>by cases r<;>exact h) λ_ _ h=>h
def CellsI (d:Int) (ns:List Int) (j:Nat) (cells:Array Value):Prop:=match j with
 | 0=>cells=#[]
 | j+1=>∃ t,cells=#[.int (maxI d (ns.take (j+1))) t,.int (maxI d (ns.take (j+1))) t]
end
section
variable {X:Cx}{B:BB}{pos p p1:Pos}{kr:Nat}
inductive KX (X:Cx):List Expr->M (List D)->Prop
 | nil:KX X [] nilA
 | int {i:Int} {a b es t}:KX X es t->KX X (.Constant (.int i) a b::es) (consA (ret (.int i)) t)
 | bl {i:Bool} {a b es t}:KX X es t->KX X (.Constant (.bool i) a b::es) (consA (ret (.bl i)) t)
 | non {a b es t}:KX X es t->KX X (.Constant .none a b::es) (consA (ret .non) t)
 | str {i:Str} {a b es t}:KX X es t->KX X (.Constant (.str i) a b::es) (consA (ret (.str i)) t)
 | neg {i:Int} {a b p es t}:KX X es t->KX X (.UnaryOp .USub (.Constant (.int i) a b) p::es) (consA (un1 negI (ret (.int i))) t)
 | pow {i j:Int} {a b a' b' p es t}:KX X es t->KX X (.BinOp (.Constant (.int i) a b) .Pow (.Constant (.int j) a' b') p::es) (consA (op2 powI (ret (.int i)) (ret (.int j))) t)
 | nm {z p i es t}:PE X (.Name z p) (tVar i)->KX X es t->KX X (.Name z p::es) (consA (nm i) t)
 | tup {fs u x p es t}:KX X fs u->KX X es t->KX X (.Tuple fs x p::es) (consA (tupA u) t)
 | lst {fs u p es t}:KX X fs u->KX X es t->KX X (.List fs p::es) (consA (frz (lstA u)) t)
theorem KX.ad {es:List Expr}{t:M (List D)} (h:KX X es t):AD X B es t:=by
 induction h with
 | nil=>exact gx
 | int _ ih=>exact f' lK ih rfl
 | bl _ ih=>exact f' uk ih rfl
 | non _ ih=>exact f' vt ih rfl
 | str _ ih=>exact f' tw ih rfl
 | neg _ ih=>exact f' (xK lK) ih rfl
 | pow _ ih=>exact f' (wg lK lK) ih rfl
 | nm h _ ih=>exact f' (DD h) ih rfl
 | tup _ _ ih1 ih2=>exact f' (sU ih1) ih2 rfl
 | lst _ _ ih1 ih2=>exact f' (sM (sS ih1)) ih2 rfl
end
end DL
namespace L2
open PySem PySem.Spec PyProof.Rows
theorem BS {p p':Pos}{c cv:Value}:∀ (l:List Value),TriplesOk l->codeAmong p' (l++[rawInt p.line,rawInt p.col,c])=some cv->codeAmong p' l=some cv\/cv=c
 | [],_,h=>by
  right
  simp only [nil_append,codeAmong,rawInt] at h
  split at h
  ·exact (Option.some.inj h).symm
  ·cases h
 | .int a t::.int b u::x::r,ok,h=>by
  simp only [List.cons_append,codeAmong] at h ⊢
  split at h
  ·rename_i q
   rw [if_pos q]
   exact .inl h
  ·rename_i q
   rw [if_neg q]
   exact BS r ok h
theorem DR {a b:Int}{c:Value}:∀ (l:List Value),TriplesOk l->TriplesOk (l++[rawInt a,rawInt b,c])
 | [],_=>trivial
 | .int _ _::.int _ _::x::r,ok=>DR r ok
section
variable {X:Cx}{aa:List (Addr×Obj)}{U:St}{H:Hp}{s:Shared}
theorem LL {h':Heap}{t':Nat}{P c:Addr}{q:Str}{ps:Array Value}{pos:Pos}{oc:Obj}{vs:Array Value}{t:Tok} (I:Inv X aa U H s) (hP:H P=some (.tbl q)) (eZ:s.heap.get? P=some { cls:=.none,data:=.fields ps }) (ok:TriplesOk ps.toList)
  (hx:Heap.ExtBut P s.heap h') (hc:s.heap.objs.size<=c) (ec:h'.get? c=some oc) (hd:oc.data=.fields vs) (hv:vs[1]?=some (.str q t)) (mX:h'.get? P=some { cls:=.none,data:=.fields (ps++#[rawInt pos.line,rawInt pos.col,.ref c]) }) :
  Inv X aa U (upd H c (.frz oc (.own P))) { s with heap:=h',toks:=t' }:=by
 have hf:=I.hok.fresh hc
 have ne:∀ {b u},H b=some u->b≠c:=λ{b u} e=>ut e hf
 have nP:∀ {b},H b=none->b≠P:=λ{b} n z=>by rw [z,hP] at n;cases n
 have old:∀ {q':Str}{aH:Pos}{cv:Value},codeAmong aH ps.toList=some cv->∃ c oc vs t,cv=.ref c/\H c=some (.frz oc (.own P))/\oc.data=.fields vs/\vs[1]?=some (.str q t):=λ{q' aH cv} e=>by
  obtain ⟨rW,e1,_,e3⟩:=(show ObjOk X.prog X.w H s.heap P (.tbl q) from I.hok P _ hP)
  rw [eZ] at e1
  cases e1
  exact e3 _ _ e
 have:=I.step (H':=upd H c (.frz oc (.own P))) (h':=h') (g':=s.gens) (d':=s.drawn) (t':=t') (ch:=[]) (λb z=>nomatch z) (λb o _ _ _ e n=>hx b o (nP n) e) (λb o _ _ _ e n=>⟨o.slots,hx b o (nP n) e⟩)
  (λb o _ e n=>by rw [sO (ne_of_lt (lt_of_lt_of_le (lt_size e) hc))];exact n) (λb o _ e=>by
   by_cases z:b=P
   ·exact ⟨_,by rw [z];exact mX⟩
   ·exact ⟨o,hx b o z e⟩) (λb xs e=>by rw [sO (ne e)];exact e) (λb o u e=>by rw [sO (ne e)];exact e) (λb q' e=>by rw [sO (ne e)];exact e)
  (λm hm=>by
   obtain ⟨o,es,ep,e,r⟩:=hm
   exact ⟨o,es,ep,hx _ o (nP I.free) e,r⟩) (λb u e=>?_) I.bare
 ·exact this
 ·by_cases hb:b=c
  ·subst hb
   rw [tz] at e
   cases e
   exact ⟨ec,oc,ec⟩
  ·rw [sO hb] at e
   by_cases hbP:b=P
   ·subst hbP
    rw [hP] at e
    cases e
    refine ⟨_,mX,by rw [Array.toList_append];exact DR _ ok,λaH cv z=>?_⟩
    rw [Array.toList_append] at z
    rcases BS _ ok z with z | z
    ·obtain ⟨c',pM,gK,t',e1,e2,e3⟩:=old (q':=q) z
     exact ⟨c',pM,gK,t',e1,by rw [sO (ne e2)];exact e2,e3⟩
    ·exact ⟨c,oc,vs,t,z,tz,hd,hv⟩
   ·refine (I.hok b u e).stay (λd v hd q=>hx d v ?_ q) (λd q=>by rw [sO (ne q)];exact q) (λd xs q=>by rw [sO (ne q)];exact q) λd o u q=>by rw [sO (ne q)];exact q
    rcases hd with z | z
    ·rw [z];exact hbP
    ·intro y;rw [y,hP] at z;cases z
end
noncomputable abbrev lamObj (params:Arguments) (body:Expr) (scope:Scope) (cl:List (Str×Addr)) (pm cv bx:Value):Obj :=
 { cls:=.type "function", data:=.func (kla_fn "<lambda>" "letter_left.<locals>.<lambda>" params body scope cl pm cv bx) }
section
variable {X:Cx}{aa:List (Addr×Obj)}{U:St}{H:Hp}{s:Shared}{params:Arguments}{body:Expr}{scope:Scope}{c8:Pos}
def Code1 (H:Hp) (cv:Value):Prop:=∃ c oc P vs t,cv=.ref c/\H c=some (.frz oc (.own P))/\oc.data=.fields vs/\vs[1]?=some (.str "letter_left.<locals>.<lambda>" t)
theorem Code1.rec' {cv:Value} (h:Code1 H cv) (ok:HOk X.prog X.w H s.heap):s.heap.CodeRec cv "letter_left.<locals>.<lambda>":=by
 obtain ⟨c,oc,P,vs,t,rfl,e,d,v⟩:=h
 obtain ⟨ho,_⟩:=(show ObjOk X.prog X.w H s.heap c (.frz oc (.own P)) from ok c _ e)
 exact ⟨c,oc,vs,t,rfl,ho,d,v⟩
theorem FV {c P:Addr}{eC:List (Str×Addr)} (I:Inv X aa U H s) (ht:tabIn X.K "letter_left"=some (c,P)) (cy:X.env.code=.ref c) (hq:X.env.qual = "letter_left.<locals>.") (eD:defaultsOf params X.env=([],[])) (cr:closureFor scope X.env=pure eC){Q:Value->Shared->Prop}
  (k:∀ f H' s' pm cv bx,Inv X aa U H' s'->(H'=H\/∃ c' oc,H c'=none/\H'=upd H c' (.frz oc (.own P)))->Code1 H' cv->s.heap.objs.size<=f->H' f=none->s'.heap.get? f=some (lamObj params body scope eC pm cv bx)->Q (.ref f) s') :
  wpAny (model X.prog X.w) X.A (eval (.Lambda params body scope c8) X.env) Q X.xe s:=by
 have q2:X.env.qual ++ "<lambda>" = "letter_left.<locals>.<lambda>":=by rw [hq];decide
 refine PySem.W.kla_eval eD ?_
 rw [q2]
 have hP:H P=some (.tbl "letter_left.<locals>.<lambda>"):=I.base.tbls P _ (I.ok.tb c P ht)
 obtain ⟨ps,eZ,ok,en⟩:=(show ObjOk X.prog X.w H s.heap P (.tbl "letter_left.<locals>.<lambda>") from I.hok P _ hP)
 have hg:=I.ok.mod.glob.keeps I.bk
 have C:=(I.ok.mod.cod c P ht).keeps I.bk
 have pN:mainGlobals≠P:=λz=>by
  obtain ⟨o,es,ep,e,hd,_⟩:=hg
  rw [z,eZ] at e;cases e;cases hd
 have hb:s.heap.BuiltinsAt X.mg P:=by
  obtain ⟨bm,ob,b1,b2,b3,b4,b5,b6⟩:=I.ok.mod.bm
  refine ⟨bm,ob,b1,b2,λz=>?_,λz=>?_,I.bk _ _ b3,b4,b5,b6⟩
  ·obtain ⟨o,es,ep,e,hd,_⟩:=hg
   rw [← z,I.bk _ _ b3] at e;cases e;rw [b6] at hd;cases hd
  ·have:=I.bk _ _ b3
   rw [z,eZ] at this;cases this;cases b4
 cases hf:codeAmong c8 ps.toList with
 | some cv =>
  refine PySem.W.kla_makeFunctionHit (mg:=X.mg) cr I.ok.glob hg cy C eZ ok hf hb λbx h' tk keep sz=>?_
  have kY:∀ b o,s.heap.get? b=some o->(h'.push (lamObj params body scope eC ((X.mg "__name__").getD .none) cv bx)).get? b=some o:=λb o e=>get?_push_of_some _ (keep b o e)
  have I2:Inv X aa U H { s with heap:=h'.push (lamObj params body scope eC ((X.mg "__name__").getD .none) cv bx),toks:=tk }:=I.kept (t':=tk) kY
  refine k _ H _ _ cv bx I2 (.inl rfl) ?_ sz (I.hok.fresh sz) (get?_push_size _ rfl)
  obtain ⟨c',oc,vs,t,e1,e2,e3,e4⟩:=en _ _ hf
  exact ⟨c',oc,P,vs,t,e1,e2,e3,e4⟩
 | none =>
  refine PySem.W.kla_makeFunction (mg:=X.mg) cr I.ok.glob hg cy C eZ ok hf pN hb λc' bx h' tk hx kZ bE mY pO=>?_
  obtain ⟨c2,oc,vs,t,e1,e2,e3,e4⟩:=mY
  cases e1
  have I1:=LL (t':=tk) I hP eZ ok hx kZ e2 e3 e4 pO
  have I2:Inv X aa U _ { s with heap:=h'.push (lamObj params body scope eC ((X.mg "__name__").getD .none) (.ref c') bx),toks:=tk }:=I1.kept (t':=tk) λb o e=>get?_push_of_some _ e
  refine k _ _ _ _ (.ref c') bx I2 (.inr ⟨c',oc,I.hok.fresh kZ,rfl⟩) ⟨c',oc,P,vs,t,rfl,tz,e3,e4⟩ (le_trans kZ (le_of_lt bE)) ?_ (get?_push_size _ rfl)
  exact I1.hok.fresh (le_refl _)
noncomputable abbrev envL (scope:Scope) (L f:Addr) (cv:Value) (cl:List (Str×Addr)):Env:=PySem.W.envX "letter_left.<locals>.<lambda>" scope L f cv cl
noncomputable abbrev cxL (X:Cx) (A:Around) (scope:Scope) (N:List Str) (s:Shared) (H:Hp) (f:Addr) (cv:Value) (cl:List (Str×Addr)):Cx :=
 { X with A:=A.deeper (envL scope s.heap.objs.size f cv cl),N:=N,s₀:=s,H₀:=H,env:=envL scope s.heap.objs.size f cv cl,outer:=X.stack,stack:=envL scope s.heap.objs.size f cv cl::X.stack,ex:=[],fn:=λ_=>false,calm:=true,pn:=[],xe:=λ_ _=>False }
theorem Gz {A:Around}{f c0:Addr}{g y:Str}{pm cv bx u uc:Value}{v vc:V}{t:TE}{Q:VK}{R:Value->Shared->Prop}{E:Value->Shared->Prop} (I:Inv X aa U H s) (hA:Env0 X.prog X.w X.K X.mg X.base A X.stack s H) (hd:A.handled=none) (k5:A.depth < recursionLimit)
  (hf:s.heap.get? f=some (lamObj params body scope [(y,c0)] pm cv bx)) (aX:Code1 H cv) (pP:∃ z,X.env.cells.lookup z=some c0) (bU:s.heap.IsCell c0 (some uc)) (rv:RelV v u) (rc:RelV vc uc) (rX:g≠y)
  (eW:∀ u,bindArgs (kla_fn "<lambda>" "letter_left.<locals>.<lambda>" params body scope [(y,c0)] pm cv bx) ⟨[u],[]⟩=pure [(g,u)]) (hk:scope.kind=.function) (pQ:scope.isCoroutine=false) (mZ:scope.isGenerator=false)
  (m8:scope.names.lookup g=some .local) (pR:scope.names.lookup y=some .free) (iC:∀ x∈scope.names,x.2≠.cell) (dy:∀ x,scope.names.lookup x=some .free->x=y)
  (hb:PE (cxL X A scope [g,y] s H f cv [(y,c0)]) body t) (ht:t [some v,some vc] H Q)
  (k:∀ u' s',CE X.stack X.prog X.w H s Q u' s'->R u' s'):wpAny (model X.prog X.w) A (call (.ref f) [u]) R E s:=by
 refine wpAny_call (PySem.W.kla_callFunE k5 hf rfl pQ mZ rfl (aX.rec' I.hok) ?_)
 rw [eW]
 refine wpAny_pure (wpAny_newFunctionEnv iC (λx hx=>by rw [mem_singleton.mp hx];exact m8) (λjI fM iF=>⟨(I.nolimit).fresh _ iF,?_⟩) hk)
 have old:∀ b o,s.heap.get? b=some o->jI.get? b=some o:=λb o e=>iF.extBut b o (ne_of_lt (lt_size e)) (get?_push_of_some _ e)
 have fX:∀ x,(envL scope s.heap.objs.size f cv [(y,c0)]).kindOf x=scope.names.lookup x:=λx=>rfl
 have look:∀ x d,(envL scope s.heap.objs.size f cv [(y,c0)]).cells.lookup x=some d->x=y/\d=c0:=λx d e=>by
  have e:List.lookup x [(y,c0)]=some d:=e
  rw [List.lookup_cons] at e
  by_cases z:x=y
  ·subst z;simp at e;exact ⟨rfl,e.symm⟩
  ·have:(x == y)=false:=by simpa using z
   rw [this] at e;cases e
 have own:(envL scope s.heap.objs.size f cv [(y,c0)]).cells.lookup y=some c0:=by
  show List.lookup y [(y,c0)]=some c0
  simp
 obtain ⟨z0,pS⟩:=pP
 have ok:(cxL X A scope [g,y] s H f cv [(y,c0)]).Ok:=by
  refine ⟨hA.mod,hk,rfl,rfl,le_refl _,λa b d e1 e2=>?_,λx hx=>?_,λx d z=>(nomatch z),λ_=>hd,Around.frames_deeper hA.frames,.inr ⟨rfl,rfl⟩,λb z=>(nomatch z),hA.bs,hA.bsz,λb _ _ z=>(nomatch z),λb z=>(nomatch z),hA.funs,hA.frf,hA.tb⟩
  ·rw [(look a d e1).1,(look b d e2).1]
  ·rcases hx with hx | hx
   ·exact absurd rfl (iC _ (PySem.mem_of_lookup hx))
   ·rw [dy x hx];exact ⟨c0,own⟩
 have I':Inv (cxL X A scope [g,y] s H f cv [(y,c0)]) [] [some v,some vc] H { s with heap:=jI,toks:=s.toks+1 }:=by
  refine ⟨ok,rfl,hA.bare,Un.kept old,⟨_,fM,λi x w e1 e2 e3=>?_⟩,λx d e=>?_,I.hok.fresh (le_refl _),λx d e=>?_,λp hp=>(nomatch hp),I.hok.kept old,rfl⟩
  ·match i,e1,e2 with
   | 0,e1,e2 =>
    cases e1
    cases e2
    exact ⟨u,rv,.inl ⟨m8,by simp⟩⟩
   | 1,e1,e2 =>
    cases e1
    cases e2
    obtain ⟨o,ho,bK⟩:=bU
    exact ⟨uc,rc,.inr ⟨.inr pR,c0,own,o,old _ _ ho,bK⟩⟩
  ·rw [(look x d e).2]
   obtain ⟨o,ho,bK⟩:=bU
   exact ⟨_,o,old _ _ ho,bK⟩
  ·rw [(look x d e).2]
   exact I.freeC z0 c0 pS
 refine PySem.W.kla_codeExpr (wpAny_mono (hb [] _ _ H Q I' ht) (λv' s' h=>?_) λ_ _ x=>x.elim)
 obtain ⟨v2,H2,I2,r2,q2⟩:=h
 refine k v' s' ⟨v2,H2,I2.os,I2.bare,?_,I2.hok,r2,q2⟩
 exact I2.base
end
end L2
namespace DL
open PySem PySem.W PySem.Spec PyProof.Rows L2
def stpL (t:TE) (vc:V):V->Hp->(Int->Hp->Prop)->Prop:=λx H R=>t [some x,some vc] H λv H'=>∃ k,v=.int k/\R k H'
section
variable {X:Cx}{aa:List (Addr×Obj)}{U:L2.St}{H:Hp}{s:Shared}{params:Arguments}{body:Expr}{scope:Scope}{t:TE}{vc:V}{g y:Str}{c0 f:Addr}{pm cv bx:Value}{kb jc:Nat}
structure LamFix (X:Cx) (params:Arguments) (body:Expr) (scope:Scope) (g y:Str) (c0:Addr) (t:TE) (kb jc:Nat):Prop where
 jn:X.N[jc]?=some y
 vis:Vis X.env.scope y
 cel:X.env.kindOf y≠some .local
 cl:X.env.cells.lookup y=some c0
 ne:g≠y
 bind:∀ pm cv bx u,bindArgs (kla_fn "<lambda>" "letter_left.<locals>.<lambda>" params body scope [(y,c0)] pm cv bx) ⟨[u],[]⟩=pure [(g,u)]
 kind:scope.kind=.function
 co:scope.isCoroutine=false
 gen:scope.isGenerator=false
 lg:scope.names.lookup g=some .local
 ly:scope.names.lookup y=some .free
 no:∀ x∈scope.names,x.2≠.cell
 fre:∀ x,scope.names.lookup x=some .free->x=y
 body:∀ (A:Around) (s:Shared) (H:Hp) (f:Addr) (cv:Value),Room kb (A.deeper (envL scope s.heap.objs.size f cv [(y,c0)]))->PE (cxL X A scope [g,y] s H f cv [(y,c0)]) body t
end
section
variable {X:Cx}{aa:List (Addr×Obj)}{U:L2.St}{H:Hp}{s:Shared}{params:Arguments}{body:Expr}{scope:Scope}{t:TE}{vc:V}{g y:Str}{c0 f:Addr}{pm cv bx:Value}{kb jc:Nat}
theorem nofr (I:Inv X aa U H s){b:Addr} (h:s.heap.objs.size<=b):b∉frs X.stack:=λz=>by
 rcases mem_cons.mp (I.stkSub b z) with e | e
 ·exact absurd I.lt (by rw [← e];exact not_lt.mpr h)
 ·exact I.nofs h e
variable {B:BB}{e:Expr}{pos p c8 iP eE cp:Pos}{jx:Option Str}
end
section
variable {X:Cx}{params:Arguments}{body:Expr}{scope:Scope}{t:TE}{g y:Str}{c0:Addr}{kb jc:Nat}{B:BB}{e:Expr}{pos p c8 iP eE cp:Pos}{jx:Nat}
def B0:BB:=λ_=>none
noncomputable def keysL (el:M D) (dc:D):List D->Option (List Int)
 | []=>some []
 | d::ds=>match el [some (.val d),some (.val dc)] with
  | some (.int k,_)=>match keysL el dc ds with
   | some kz=>some (k::kz)
   | none=>none
  | _=>none
noncomputable def valAt (j:Nat):M D:=λY=>match Y[j]? with
 | some (some (.val d))=>some (d,Y)
 | _=>none
theorem Gs {K:PySem.W.Frag}{I H:Hp}{d dc:D}{v vc:V} (iH:Same I H) (hd:Is K I d v) (hc:Is K I dc vc):Rep K B0 H I H [some v,some vc] [some (.val d),some (.val dc)] where
 iH:=iH
 gH:=Same.refl _
 len:=rfl
 slot:=λi r e=>by
  match i,e with
  | 0,e=>cases e;exact ⟨v,rfl,hd⟩
  | 1,e=>cases e;exact ⟨vc,rfl,hc⟩
 dist:=λi j r r' w e e' m=>by
  match i,e with
  | 0,e=>cases e;cases m
  | 1,e=>cases e;cases m
 bor:=λi ds e=>by
  match i,e with
  | 0,e=>cases e
  | 1,e=>cases e
end
end DL
namespace DL
open PySem PySem.Spec PyProof.Rows L2
section
variable {P:Program}{w:World}{K:PySem.W.Frag}{mg:Str->Option Value}{base:Heap}
theorem LH {f c P':Addr}{fd:FuncData}{oc:Value}{od:Option Addr}{cR:Array (Option Value)} (hn:nsIn K mainGlobals "letter_left"=some (some (.ref f))) (ht:tabIn K "letter_left"=some (c,P')) (lk:K.lookup f=some ⟨oc,od,.func fd,cR⟩):fd.code=.ref c:=by
 unfold tabIn at ht
 rw [hn] at ht
 dsimp only at ht
 rw [lk] at ht
 dsimp only at ht
 split at ht
 ·rename_i e
  split at ht
  ·split at ht
   ·cases ht;exact e
   ·cases ht
  ·cases ht
 ·cases ht
theorem JL {x qual:Str}{st:Stmt}{f c P':Addr}{fd:FuncData}{N ps:List Str}{k:Nat}{sp:Sp} (F:Fun K x qual st f fd) (S:FnScope N ps (defScope st)) (hn:nsIn K mainGlobals "letter_left"=some (some (.ref f))) (ht:tabIn K "letter_left"=some (c,P')) (len:∀ vs H Q E,sp vs H Q E->vs.length=ps.length)
  (cS:∀ (au:Value),au=.ref c->∀ (A:Around) (outer:List Env) (s:Shared) (H:Hp) (vs:List V) (Q:VK) (E:XK),Room k (A.deeper (envOfC qual (defScope st) s.heap.objs.size f au))->sp vs H Q E →
   ∃ t,PSs (cxOf CX0 P w K mg base N qual (defScope st) f au A outer s H E).nox (defBody st) t/\t { nx:=λ_ H'=>Q .non H',rt:=Q } (start N vs) H):FnOk P w K mg base CX0 (k+1) f fd ps sp:=by
 obtain ⟨oc,od,kV,bM,pm,an,au,ct,cR,rfl,lk,aX⟩:=F.ex
 refine CJ lk aX S len λA outer s H vs Q E hr db=>?_
 obtain ⟨t,h,q⟩:=cS au (LH hn ht lk) A outer s H vs Q E hr db
 exact ⟨t,h.nox,q⟩
theorem K8 {x qual:Str}{c P':Addr}{st:Stmt}{f:Addr}{fd:FuncData}{N ps:List Str}{k:Nat} (F:Fun K x qual st f fd) (S:FnScope N ps (defScope st)) (hn:nsIn K mainGlobals "letter_left"=some (some (.ref f))) (ht:tabIn K "letter_left"=some (c,P')) (g:M Fl)
  (hb:∀ (au:Value),au=.ref c->∀ (A:Around) (outer:List Env) (s:Shared) (H:Hp) (E:XK) (B:BB),Room k (A.deeper (envOfC qual (defScope st) s.heap.objs.size f au)) →
   SDs (cxOf CX0 P w K mg base N qual (defScope st) f au A outer s H E).nox B (defBody st) g):FnOk P w K mg base CX0 (k+1) f fd ps (spD K (fnD N.length ps.length g)):=by
 refine JL F S hn ht (λvs H Q E h=>?_) (λau aX A outer s H vs Q E hr h=>?_)
 ·obtain ⟨_,_,rs,_,_,h1,_,h2,_⟩:=h
  unfold fnD at h2
  by_cases hc:rs.length=ps.length
  ·rw [← hc];simpa using h1.len
  ·rw [if_neg hc] at h2;cases h2
 ·obtain ⟨G,I,rs,r,aY,h2,h3,h4,h5⟩:=h
  have hl:vs.length=rs.length:=by simpa using h2.len
  refine ⟨_,hb au aX A outer s H E (λi=>(L2.start N vs)[i]?) hr,?_⟩
  unfold fnD at h4
  have hc:rs.length=ps.length:=by
   by_cases hc:rs.length=ps.length
   ·exact hc
   ·rw [if_neg hc] at h4;cases h4
  rw [if_pos hc] at h4
  unfold fnD1 at h4
  cases e1:g (rs.map some++replicate (N.length - rs.length) none) with
  | none=>rw [e1] at h4;cases h4
  | some q =>
   obtain ⟨fl,af⟩:=q
   rw [e1] at h4
   dsimp only at h4
   cases e2:flR fl with
   | none=>rw [e2] at h4;cases h4
   | some rr =>
    rw [e2] at h4
    dsimp only at h4
    cases e3:fin rs af with
    | none=>rw [e3] at h4;cases h4
    | some l =>
     rw [e3] at h4
     obtain ⟨rfl,rfl⟩:rr=r/\l=aY:=by cases h4;exact ⟨rfl,rfl⟩
     have dC:∀ {i:Nat}{v:V},vs[i]?=some v->(L2.start N vs)[i]?=some (some v):=λ{i v} e=>by
      unfold L2.start
      rw [getElem?_append_left (by rw [length_map];exact (List.getElem?_eq_some_iff.mp e).1),getElem?_map,e];rfl
     have eR:∀ {i:Nat}{v:V},(L2.start N vs)[i]?=some (some v)->vs[i]?=some v:=λ{i v} e=>uY e
     have gz:Rep K (λi=>(L2.start N vs)[i]?) G I H (L2.start N vs) (rs.map some++replicate (N.length - rs.length) none):={
      iH:=h2.iH,gH:=h2.gH
      len:=by unfold L2.start;rw [length_append,length_append,length_map,length_map,length_replicate,length_replicate,hl]
      slot:=λi q e=>by
       have e':=uY e
       obtain ⟨v,e4,e5⟩:=h2.slot i q (by rw [getElem?_map,e'];rfl)
       obtain ⟨v',e6,e7⟩:=getMap e4
       cases e7
       exact ⟨v,dC e6,e5⟩
      dist:=λi j q q' v e e' m m' s1 s2=>h2.dist i j q q' v (by rw [getElem?_map,uY e];rfl) (by rw [getElem?_map,uY e'];rfl) m m' (by rw [getElem?_map,eR s1];rfl) (by rw [getElem?_map,eR s2];rfl)
      bor:=λi ds e=>rfl }
     obtain ⟨f1,f2⟩:=wR e3
     -- behind the body
     have cX:∀ {aj:L2.St}{H' I':Hp},Rep K (λi=>(L2.start N vs)[i]?) G I' H' aj af->Grow G I I'->Rep K (vB vs) G I' H' (vs.map some) (l.map some):=λ{aj H' I'} r' g'=>{
      iH:=r'.iH,gH:=r'.gH
      len:=by rw [length_map,length_map,f1,hl]
      slot:=λi q e=>by
       obtain ⟨q',e4,e5⟩:=getMap e
       cases e5
       rcases f2 i q e4 with ⟨d,rfl,e6⟩ | ⟨ds,rfl,e6⟩
       ·obtain ⟨v,e7,e8⟩:=h2.slot i (.val d) (by rw [getElem?_map,e6];rfl)
        exact ⟨v,e7,Is.mono g'.up e8⟩
       ·obtain ⟨v,e7,e8⟩:=r'.slot i _ e6
        have e9:=r'.bor i ds e6
        rw [e7] at e9
        exact ⟨v,by rw [getElem?_map,eR e9.symm];rfl,e8⟩
      dist:=λi j q q' v e e' m m' s1 s2=>by
       obtain ⟨_,e4,e5⟩:=getMap e
       cases e5
       obtain ⟨_,e6,e7⟩:=getMap e'
       cases e7
       rcases f2 i q e4 with ⟨d,rfl,_⟩ | ⟨ds,rfl,e8⟩
       ·cases m
       rcases f2 j q' e6 with ⟨d,rfl,_⟩ | ⟨dD,rfl,e9⟩
       ·cases m'
       obtain ⟨v1,a1,_⟩:=getMap s1
       obtain ⟨v2,a2,a3⟩:=getMap s2
       have b1:=r'.bor i ds e8
       have b2:=r'.bor j dD e9
       rename_i b3
       cases b3
       cases a3
       rw [dC a1] at b1
       rw [dC a2] at b2
       exact r'.dist i j _ _ v e8 e9 rfl rfl b1 b2
      bor:=λi ds e=>rfl }
     have ap:∀ {aj:L2.St}{H' I':Hp}{p:Addr},Rep K (λi=>(L2.start N vs)[i]?) G I' H' aj af->Apart aj af p->Apart (vs.map some) (l.map some) p:=λ{aj H' I' p} r' a i q e m z=>by
      obtain ⟨_,e4,e5⟩:=getMap e
      cases e5
      rcases f2 i q e4 with ⟨d,rfl,_⟩ | ⟨ds,rfl,e8⟩
      ·cases m
      obtain ⟨v1,a1,a2⟩:=getMap z
      cases a2
      exact a i _ e8 rfl ((r'.bor i ds e8).trans (dC a1))
     refine ⟨G,I,_,fl,af,gz,e1,λaj H' I' r' g'=>?_⟩
     cases fl with
     | nx=>cases e2;exact h5 _ H' I' (cX r' g') g' (show Is K I' D.non V.non from Is.non)
     | bk=>cases e2
     | ct=>cases e2
     | rt r0 =>
      cases e2
      intro v hv
      refine h5 v H' I' (cX r' g') g' ?_
      cases rr with
      | val d=>exact hv
      | bor d=>exact hv
      | fro d=>exact hv
      | dic d =>
       obtain ⟨p,xs,b1,b2,b3,b4,b5,b6⟩:=hv
       exact ⟨p,xs,b1,b2,b3,b4,ap r' b5,b6⟩
      | own d =>
       obtain ⟨p,xs,b1,b2,b3,b4,b5,b6⟩:=hv
       exact ⟨p,xs,b1,b2,b3,b4,ap r' b5,b6⟩
end
section
variable {X:Cx}{params:Arguments}{body:Expr}{scope:Scope}{g y:Str}{c0:Addr}{kb jc:Nat}{el:M D}
theorem G8 (jn:X.N[jc]?=some y) (cl:X.env.cells.lookup y=some c0) (hb:∀ (A:Around) (s:Shared) (H:Hp) (f:Addr) (cv:Value),Room kb (A.deeper (envL scope s.heap.objs.size f cv [(y,c0)]))->ED (cxL X A scope [g,y] s H f cv [(y,c0)]) B0 body el)
  (hk:X.env.scope.names.lookup y=some .cell:=by rfl) (ne:g≠y:=by decide) (mS:∀ pm cv bx u,bindArgs (kla_fn "<lambda>" "letter_left.<locals>.<lambda>" params body scope [(y,c0)] pm cv bx) ⟨[u],[]⟩=pure [(g,u)]:=by intro _ _ _ _;rfl)
  (k1:scope.kind=.function:=by rfl) (k2:scope.isCoroutine=false:=by rfl) (k3:scope.isGenerator=false:=by rfl) (lg:scope.names.lookup g=some .local:=by rfl) (ly:scope.names.lookup y=some .free:=by rfl)
  (no:∀ x∈scope.names,x.2≠.cell:=by decide +kernel) (fre:∀ x∈scope.names,x.2=.free->x.1=y:=by decide +kernel):LamFix X params body scope g y c0 (tD X.K B0 el) kb jc :=
 ⟨jn,.inr (.inl hk),(λz=>by
  have z:X.env.scope.names.lookup y=some .local:=z
  rw [hk] at z
  cases z),cl,ne,mS,k1,k2,k3,lg,ly,no,λx h=>fre _ (PySem.mem_of_lookup h) rfl,hb⟩
end
end DL
namespace DL
open PySem PySem.W PySem.Spec PyProof.Rows L2
def keyS (iQ:V->Hp->(Int->Hp->Prop)->Prop) (P:Hp->Prop):List V->Hp->List Int->(List Int->Hp->Prop)->Prop
 | [],H,ae,Q=>P H/\Q ae H
 | x::xs,H,ae,Q=>P H/\iQ x H λk H'=>keyS iQ P xs H' (ae++[k]) Q
theorem keyS.now {iQ:V->Hp->(Int->Hp->Prop)->Prop}{P:Hp->Prop}{xs:List V}{H:Hp}{ae:List Int}{Q:List Int->Hp->Prop} (h:keyS iQ P xs H ae Q):P H:=by
 cases xs<;>exact h.1
noncomputable def bestK {α:Type}:α->Int->List Int->List α->α
 | b,m,k::kz,x::xs=>if k < m then bestK x k kz xs else bestK b m kz xs
 | b,_,_,_=>b
noncomputable def minL {α:Type} (d:α) (kz:List Int) (xs:List α):α:=match kz,xs with
 | k::kz,x::xs=>bestK x k kz xs
 | _,_=>d
theorem Fy (a v d:Value):argsOk "min" ⟨[a],[(ofString "key", v),(ofString "default", d)]⟩:=by unfold argsOk;kernel_rfl
def HeldK (xs:List V) (ae:List Int) (j:Nat) (cells:Array Value):Prop:=(j=0/\cells=#[]/\ae=[]) ∨
 ∃ b m vb tb,0 < j/\cells=#[vb,.int m tb]/\RelV b vb/\∀ kz,minL .non (ae++kz) xs=bestK b m kz (xs.drop j)
section
variable {X:Cx}{aa:List (Addr×Obj)}{U:L2.St}{params:Arguments}{body:Expr}{scope:Scope}{t:TE}{vc:V}{g y:Str}{c0 f:Addr}{pm cv bx:Value}{kb jc:Nat}
theorem G5 (hr:Room (kb+3) X.A) (L:LamFix X params body scope g y c0 t kb jc) (hv:U[jc]?=some (some vc)){l it S:Addr}{xs:List V} (gU:S≠it) (jJ:l≠it) (nf:f≠S/\f≠it)
  (fi:∀ H',H' it=none->FpOk X aa H' it) (fs:∀ H',H' S=none->FpOk X aa H' S) (pU:∀ b,b=it\/b=S\/b=f->b∉frs X.stack){Q:VK}:∀ (left:Nat) (s:Shared) (H:Hp) (j:Nat) (cells:Array Value) (c:Nat) (ae:List Int),j+left=xs.length →
  Inv X aa U H s->s.heap.get? f=some (lamObj params body scope [(y,c0)] pm cv bx)->H f=none->Code1 H cv->s.heap.IsListIter it l j->H it=none->s.heap.get? S=some (seqObj "list" cells c)->H S=none->HeldK xs ae j cells->ae.length=j →
  keyS (stpL t vc) (λH=>SqL X.K H l xs) (xs.drop j) H ae (λkz H'=>Q (minL .non kz xs) H') →
  codeAny (model X.prog X.w) X.A (.builtin "min.loop" ⟨[.ref it,.ref f,.ref S],[(ofString "default", .none)]⟩) (wants (EP X aa U Q) X.xe) s:=by
 have aI:(toString "min"++toString ".loop":String) = "min.loop":=by decide
 intro left
 induction left with
 | zero =>
  intro s H j cells c ae len I hf nF aX k6 nI slot nS a9 al kk
  have hj:j=xs.length:=by omega
  rw [drop_of_length_le (by omega)] at kk
  obtain ⟨hq,q⟩:=kk
  obtain ⟨ac,rv,tl,hz⟩:=I.list hq
  have lv:=rv.length
  have hh:X.A.in1.handled=none:=hr.in1.hd
  have W:=Walks.list (prog:=X.prog) (w:=X.w) (A:=X.A.in1) hh it l jJ ac.toArray
  refine codeAny_builtin PySem.F.entry_min_loop ?_;rw [under_plainId plain_min_loop _]
  refine wpAny_bind (m:=seqItems? (.ref S)) (wpAny_seqItems slot rfl (wpAny_bind (m:=tryCatch (pyNext (.ref it)) _) (wpAny_tryCatch (W.done s _ _ ⟨by rw [size_toArray,← lv,← hj];exact k6,tl.isList⟩ λg tk kp=>?_))))
  have I1:Inv X aa U H { s with heap:=g,toks:=tk }:=vK I (ch:=[it]) (λb hb=>by rw [mem_singleton.mp hb];exact fi _ nI) λb u hb e=>kp b u hb e
  have aG:=kp S _ (by simpa using gU) slot
  rcases a9 with ⟨h0,rfl,rfl⟩ | ⟨b,m,vb,tb,h0,rfl,rb,hb⟩
  ·have e0:xs=[]:=length_eq_zero_iff.mp (by omega)
   refine wpAny_bind (wpAny_rule (wpAny_pure ?_))
   rw [e0] at q
   exact ⟨.non,H,I1,rfl,q⟩
  ·refine wpAny_bind (m:=updateSeq S λ_=>#[]) (wpAny_updateSeq aG rfl (wpAny_bind (wpAny_letGo (wpAny_pure ?_))))
   have e:=hb []
   rw [append_nil,drop_of_length_le (by omega)] at e
   have e:minL .non ae xs=b:=e
   rw [e] at q
   refine ⟨b,H,vK (t':=tk) I1 (ch:=[S]) (λb hb=>by rw [mem_singleton.mp hb];exact fs _ nS) λb u hb e=>(get?_update_other _ _ (λz=>hb (by rw [z];exact mem_singleton.mpr rfl))).trans e,rb,q⟩
 | succ left ih =>
  intro s H j cells c ae len I hf nF aX k6 nI slot nS a9 al kk
  have hj:j < xs.length:=by omega
  have hq:=kk.now
  obtain ⟨ac,rv,tl,hz⟩:=I.list hq
  have lv:=rv.length
  have hh:X.A.in1.handled=none:=hr.in1.hd
  have W:=Walks.list (prog:=X.prog) (w:=X.w) (A:=X.A.in1) hh it l jJ ac.toArray
  refine codeAny_builtin PySem.F.entry_min_loop ?_;rw [under_plainId plain_min_loop _]
  refine wpAny_bind (m:=seqItems? (.ref S)) (wpAny_seqItems slot rfl (wpAny_bind (m:=tryCatch (pyNext (.ref it)) _) (wpAny_tryCatch (W.item j s _ _ (by rw [size_toArray,← lv];exact hj) ⟨k6,tl.isList⟩ λv g1 tk dG cG kp=>?_))))
  have I1:Inv X aa U H { s with heap:=g1,toks:=tk }:=vK I (ch:=[it]) (λb hb=>by rw [mem_singleton.mp hb];exact fi _ nI) λb u hb e=>kp b u hb e
  have aG:=kp S _ (by simpa using gU) slot
  have hf1:=kp f _ (by simpa using nf.2) hf
  rw [drop_eq_getElem_cons hj] at kk
  obtain ⟨u',dE,ru⟩:=rv.get (getElem?_eq_getElem hj)
  have ev:u'=v:=by
   have:ac[j]?=some v:=by simpa using dG
   rw [dE] at this
   cases this
   rfl
  subst ev
  obtain ⟨m0,_,lo⟩:=I1.loc
  obtain ⟨uc,rc,lk⟩:=lo jc y vc L.jn hv L.vis
  have bU:g1.IsCell c0 (some uc):=by
   rcases lk with ⟨z,_⟩ | ⟨_,c,z,q⟩
   ·exact absurd z L.cel
   ·rw [L.cl] at z;cases z;exact q
  have r2:Room (kb+1) X.A.in1:=(hr.mono (by omega:kb+2<=kb+3)).in1
  obtain ⟨oI,pV,fV,m9⟩:=id cG.1
  refine wpAny_bind (m:=tryCatch (holding [u'] (call (.ref f) [u'])) _) (wpAny_tryCatch (wpAny_holding (Gz I1 I1.env0.in1 r2.hd (by have:=r2.dp;omega) hf1 aX ⟨y,L.cl⟩ bU ru rc L.ne (λu=>L.bind pm cv bx u) L.kind L.co L.gen L.lg L.ly L.no L.fre (L.body _ _ H f cv (r2.deeper _)) kk.2 λu2 s2 ce=>?_)))
  obtain ⟨v2,H2,os,bare,un,hok,rr,k,rfl,nc⟩:=ce
  obtain ⟨eF,gg,dd,tt,fW⟩:=s2
  obtain rfl:fW=s.os:=os
  obtain ⟨gW,rfl⟩:=rr
  have I2:=I1.call (h':=eF) (g':=gg) (d':=dd) (t':=tt) (ch:=[]) un hok bare (λb z=>absurd z (by simp))
  have eE:∀ b o,(b=it\/b=S\/b=f)->g1.get? b=some o->H b=none->eF.get? b=some o/\H2 b=none:=λb o hb e n=>⟨un.keep b o e n (pU b hb) (by simp),un.free b o e n (by simp)⟩
  have kI:=eE it _ (.inl rfl) pV nI
  have kS:=eE S _ (.inr (.inl rfl)) aG nS
  have kF:=eE f _ (.inr (.inr rfl)) hf1 nF
  have jK:Code1 H2 cv:=by
   obtain ⟨c,oc,P,vs,t,q1,q2,q3⟩:=aX
   exact ⟨c,oc,P,vs,t,q1,un.frzs _ _ _ q2,q3⟩
  have next:∀ (aA:Array Value),HeldK xs (ae++[k]) (j+1) aA->codeAny (model X.prog X.w) X.A (.builtin "min.loop" ⟨[.ref it,.ref f,.ref S],[(ofString "default", .none)]⟩) (wants (EP X aa U Q) X.xe) { heap:=eF.update S (mapSeq λ_=>aA),gens:=gg,drawn:=dd,toks:=tt,os:=s.os }:=λaA hc=>by
   have nz:∀ {b:Addr}{o:Obj},b≠S->eF.get? b=some o->(eF.update S (mapSeq λ_=>aA)).get? b=some o:=λne e=>(get?_update_other _ _ (Ne.symm ne)).trans e
   obtain ⟨c2,cU⟩:∃ c2,(eF.update S (mapSeq λ_=>aA)).get? S=some (seqObj "list" aA c2):=⟨_,get?_update_seq kS.1 _⟩
   have I3:Inv X aa U H2 { heap:=eF.update S (mapSeq λ_=>aA),gens:=gg,drawn:=dd,toks:=tt,os:=s.os }:=vK (s:={ heap:=eF,gens:=gg,drawn:=dd,toks:=tt,os:=s.os }) (t':=tt) I2 (ch:=[S]) (λb hb=>by rw [mem_singleton.mp hb];exact fs _ kS.2) λb u hb e=>nz (by simpa using hb) e
   exact ih _ H2 (j+1) aA c2 (ae++[k]) (by omega) I3 (nz nf.1 kF.1) kF.2 jK ⟨oI,nz (Ne.symm gU) kI.1,fV,m9⟩ kI.2 cU kS.2 hc (by simp [al]) nc
  rcases a9 with ⟨h0,rfl,rfl⟩ | ⟨b,m,vb,tb,h0,rfl,rb,hb⟩
  ·subst h0
   refine wpAny_bind (m:=updateSeq S λ_=>#[u',.int k gW]) (wpAny_updateSeq kS.1 rfl ?_)
   rw [aI]
   refine wpAny_pure ⟨plainId_quiet plain_min_loop _,next _ (.inr ⟨xs[0],k,u',gW,by omega,rfl,ru,λkz=>?_⟩)⟩
   cases xs with
   | nil=>simp at hj
   | cons x xs=>rfl
  ·have st:∀ kz,minL .non (ae++[k]++kz) xs=if k < m then bestK xs[j] k kz (xs.drop (j+1)) else bestK b m kz (xs.drop (j+1)):=λkz=>by
    rw [append_assoc,singleton_append,hb,drop_eq_getElem_cons hj,bestK]
   refine wpAny_bind (m:=tryCatch (holding [u',.int k gW] (richCompare .Lt (.int k gW) (.int m tb) >>= _)) _) (wpAny_tryCatch (wpAny_holding (wpAny_bind (lt_int (wpAny_bind (wpAny_holding (wpAny_truthy_bool (wpAny_bind (wpAny_letGo (wpAny_pure ?_))))))))))
   by_cases lt:k < m
   ·rw [if_pos (by simpa using lt)]
    refine wpAny_bind (wpAny_updateSeq kS.1 rfl (wpAny_bind (wpAny_letGo ?_)))
    rw [aI]
    refine wpAny_pure ⟨plainId_quiet plain_min_loop _,next _ (.inr ⟨xs[j],k,u',gW,by omega,rfl,ru,λkz=>?_⟩)⟩
    rw [st,if_pos lt]
   ·rw [if_neg (by simpa using lt)]
    refine wpAny_bind (wpAny_letGo ?_)
    rw [aI]
    refine wpAny_pure ⟨plainId_quiet plain_min_loop _,ih _ H2 (j+1) _ c (ae++[k]) (by omega) I2 kF.1 kF.2 jK ⟨oI,kI.1,fV,m9⟩ kI.2 kS.1 kS.2 (.inr ⟨b,m,vb,tb,by omega,rfl,rb,λkz=>?_⟩) (by simp [al]) nc⟩
    rw [st,if_neg lt]
theorem Da (hr:Room (kb+3) X.A) (L:LamFix X params body scope g y c0 t kb jc){H:Hp}{s:Shared} (hv:U[jc]?=some (some vc)) (I:Inv X aa U H s) (hf:s.heap.get? f=some (lamObj params body scope [(y,c0)] pm cv bx)) (nF:H f=none) (ff:f∉frs X.stack) (aX:Code1 H cv)
  {l:Addr}{xs:List V} (hq:SqL X.K H l xs){Q:VK} (kk:keyS (stpL t vc) (λH=>SqL X.K H l xs) xs H [] λkz H'=>Q (minL .non kz xs) H') :
  wpAny (model X.prog X.w) X.A (call (.builtin "min") [.ref l] [(ofString "key", .ref f),(ofString "default", .none)]) (EP X aa U Q) X.xe s:=by
 obtain ⟨ac,rv,tl,hz⟩:=I.list hq
 have L1:=tl.isList
 have low:l < s.heap.objs.size:=by obtain ⟨_,e,_⟩:=L1;exact lt_size e
 refine AK PySem.F.kind_min PySem.F.plain_min PySem.F.entry_min (Fy _ _ _) ?_
 refine wpAny_bind (wpAny_of_eq (a:=[some (.ref f),some .none]) rfl (wpAny_bind (wpAny_pure (wpAny_bind (wpAny_pyIter_list L1 (wpAny_bind (wpAny_newObj_type ?_)))))))
 have aI:(toString "min"++toString ".loop":String) = "min.loop":=by decide
 rw [aI]
 have aZ:∀ o:Obj,(s.heap.push o).objs.size=s.heap.objs.size+1:=λo=>size_push ..
 have ng:f < s.heap.objs.size:=lt_size hf
 have geI:s.heap.objs.size<=s.heap.objs.size:=le_refl _
 have k7:s.heap.objs.size<=s.heap.objs.size+1:=le_succ _
 have kp:∀ (o1 o2:Obj) b o,s.heap.get? b=some o->((s.heap.push o1).push o2).get? b=some o:=λo1 o2 b o e=>get?_push_of_some _ (get?_push_of_some _ e)
 refine wpAny_pure ⟨plainId_quiet plain_min_loop _,?_⟩;rw [aZ]
 refine G5 hr L hv (l:=l) (it:=s.heap.objs.size) (S:=s.heap.objs.size+1) (xs:=xs) (succ_ne_self _) (ne_of_lt low) ⟨ne_of_lt (lt_succ_of_lt ng),ne_of_lt ng⟩ (λH' n=>I.fpOk geI n) (λH' n=>I.fpOk k7 n) (λb hb=>?_) xs.length _ H 0 #[] 0 [] (zero_add _) (I.kept (t':=s.toks) (kp _ _)) (kp _ _ _ _ hf) nF aX ⟨_,get?_push_of_some _ (get?_push_size _ rfl),rfl,rfl⟩ (I.hok.fresh geI) ?_ (I.hok.fresh k7) (.inl ⟨rfl,rfl,rfl⟩) rfl kk
 ·rcases hb with h | h | h
  ·rw [h];exact nofr I geI
  ·rw [h];exact nofr I k7
  ·rw [h];exact ff
 ·rw [← aZ]
  exact get?_push_size _ rfl
end
section
variable {X:Cx}{params:Arguments}{body:Expr}{scope:Scope}{t:TE}{g y:Str}{c0:Addr}{kb jc:Nat}{B:BB}{e:Expr}{pos p c8 iP eE cp:Pos}{jx:Nat}
noncomputable def tMinL (X:Cx) (t:TE) (jc:Nat) (te:TE):TE:=λU H Q=>te U H λx H1=>∃ l xs vc,x=.ref l/\U[jc]?=some (some vc)/\SqL X.K H1 l xs ∧
 keyS (stpL t vc) (λH=>SqL X.K H l xs) xs H1 [] (λkz H'=>Q (minL .non kz xs) H') ∧
 ∀ c' o,H1 c'=none->SqL X.K (upd H1 c' o) l xs/\keyS (stpL t vc) (λH=>SqL X.K H l xs) xs (upd H1 c' o) [] (λkz H'=>Q (minL .non kz xs) H')
theorem Fi {te:TE}{c P:Addr} (hr:Room (kb+3) X.A) (hg:Gl X "min") (hm:X.mg "min"=none) (L:LamFix X params body scope g y c0 t kb jc) (ht:tabIn X.K "letter_left"=some (c,P)) (cy:X.env.code=.ref c) (hq:X.env.qual = "letter_left.<locals>.") (eD:defaultsOf params X.env=([],[]))
  (cr:closureFor scope X.env=pure [(y,c0)]) (he:PE X e te) (hs:backTo pos (starEach [e] X.env)=(false,eval e X.env)::backTo pos (starEach [] X.env):=by rfl) (hp:(backTo pos (starEach [e] X.env)).any (·.1)=false:=by rfl) :
  PE X (.Call (.Name "min" p) [e] [⟨some "key", .Lambda params body scope c8,iP⟩,⟨some "default", .Constant .none jx cp,eE⟩] pos) (tMinL X t jc te):=by
 intro aa s U H Q I h
 refine wpAny_Call_Name_kw (uy I hg hm boot_min (callWith_kw ?_ hs hp) (by decide) (by decide))
 rw [hs]
 refine Calls.spliced_cons (thn (he aa s U H _ I h) λv s1 ⟨x,H1,I1,r1,l,xs,vc,ex,hv,gw,kk,ni⟩=>Calls.spliced_nil (kws_cons ?_))
 subst ex
 cases r1
 refine FV I1 ht cy hq eD cr λf H' s' pm cv bx I2 hH aX nn nF hf=>kws_cons (Constant_none (kws_nil ?_))
 rcases hH with rfl | ⟨c',oc,n,rfl⟩
 ·exact Da hr L hv I2 hf nF (nofr I1 nn) aX gw kk
 ·exact Da hr L hv I2 hf nF (nofr I1 nn) aX (ni c' _ n).1 (ni c' _ n).2
noncomputable def minLF (el:M D) (d dc:D):Option D:=match d with
 | .lst ds=>match keysL el dc ds with
  | some kz=>some (minL .non kz ds)
  | none=>none
 | _=>none
noncomputable def minLam (j:Nat) (el ga:M D):M D:=bnd ga λd=>bnd (valAt j) λdc=>lft (minLF el d dc)
theorem DN {K:PySem.W.Frag}{G:Hp}{Y:Gm}{U:L2.St}{el:M D}{dc:D}{vc:V}{l:Addr}{all:List V}{Qf:List Int->Hp->Prop}:∀ (ds:List D) (xs:List V) (H I:Hp) (ae kz:List Int),RdK K I l all->IsA K I ds xs->Is K I dc vc->Rep K B G I H U Y->keysL el dc ds=some kz →
  (∀ H' I',Rep K B G I' H' U Y->Grow G I I'->Qf (ae++kz) H')->keyS (stpL (tD K B0 el) vc) (λH=>SqL K H l all) xs H ae Qf
 | [],xs,H,I,ae,kz,hl,ha,hc,r,h,k=>by
  rw [ha.nil_inv]
  cases h
  have:=k H I r (Grow.refl _ _)
  rw [append_nil] at this
  exact ⟨(Same.rdK r.iH hl).sq,this⟩
 | d::ds,xs,H,I,ae,kz,hl,ha,hc,r,h,k=>by
  obtain ⟨x,xr,rfl,h1,h2⟩:=ha.cons_inv
  unfold keysL at h
  split at h
  ·rename_i n ah e1
   split at h
   ·rename_i kr e2
    cases h
    refine ⟨(Same.rdK r.iH hl).sq,H,I,_,_,_,Gs r.iH h1 hc,e1,λv H' I' r' g' hv=>⟨n,sV hv,?_⟩⟩
    have rx:Rep K B G I' H' U Y:=r.ext g'.up r'.gH r'.iH g'.new
    refine DN ds xr H' I' (ae++[n]) kr (Same.rdK g'.up hl) (h2.mono g'.up) (hc.mono g'.up) rx e2 λH2 I2 r2 g2=>?_
    have:=k H2 I2 r2 ((show Grow G I I' from ⟨g'.up,λb o e=>(g'.new b o e).imp id λhn=>r.gFree hn⟩).trans g2)
    rw [append_assoc]
    exact this
   ·cases h
  ·cases h
theorem Ax {K:PySem.W.Frag}{I:Hp}:∀ {kz:List Int}{ds:List D}{xs:List V}{b:D}{x:V}{m:Int},IsA K I ds xs->Is K I b x->Is K I (bestK b m kz ds) (bestK x m kz xs)
 | [],ds,xs,b,x,m,h,hb=>by
  unfold bestK
  exact hb
 | k::kz,[],xs,b,x,m,h,hb=>by
  rw [h.nil_inv]
  unfold bestK
  exact hb
 | k::kz,d::ds,xs,b,x,m,h,hb=>by
  obtain ⟨y,xr,rfl,h1,h2⟩:=h.cons_inv
  rw [bestK,bestK]
  split
  ·exact Ax h2 h1
  ·exact Ax h2 hb
theorem KN {K:PySem.W.Frag}{I:Hp}{kz:List Int}{ds:List D}{xs:List V} (h:IsA K I ds xs):Is K I (minL .non kz ds) (minL .non kz xs):=by
 cases kz with
 | nil=>exact Is.non
 | cons k kz =>
  cases ds with
  | nil=>rw [h.nil_inv];exact Is.non
  | cons d ds =>
   obtain ⟨y,xr,rfl,h1,h2⟩:=h.cons_inv
   exact Ax h2 h1
theorem FX {el ga:M D}{c P:Addr} (hr:Room (kb+3) X.A) (hg:Gl X "min") (hm:X.mg "min"=none) (L:LamFix X params body scope g y c0 (tD X.K B0 el) kb jc) (ht:tabIn X.K "letter_left"=some (c,P)) (cy:X.env.code=.ref c) (hq:X.env.qual = "letter_left.<locals>.") (eD:defaultsOf params X.env=([],[]))
  (cr:closureFor scope X.env=pure [(y,c0)]) (he:ED X B e ga) (hs:backTo pos (starEach [e] X.env)=(false,eval e X.env)::backTo pos (starEach [] X.env):=by rfl) (hp:(backTo pos (starEach [e] X.env)).any (·.1)=false:=by rfl) :
  ED X B (.Call (.Name "min" p) [e] [⟨some "key", .Lambda params body scope c8,iP⟩,⟨some "default", .Constant .none jx cp,eE⟩] pos) (minLam jc el ga):=PE.imp (Fi hr hg hm L ht cy hq eD cr he hs hp) λU H Q q=>by
 obtain ⟨G,I,Y,d,af,r,e1,kk⟩:=q
 obtain ⟨d1,ab,e2,e3⟩:=sN e1
 obtain ⟨dc,ah,e4,e5⟩:=sN e3
 obtain ⟨e6,rfl⟩:=tx e5
 refine ⟨G,I,Y,d1,ab,r,e2,λv H1 I1 r1 g1 hd=>?_⟩
 unfold valAt at e4
 split at e4
 ·rename_i d2 sl
  cases e4
  obtain ⟨vc,hv,pW⟩:=r1.slot jc _ sl
  unfold minLF at e6
  split at e6
  ·rename_i ds
   split at e6
   ·rename_i kz ek
    cases e6
    obtain ⟨l,xs,rfl,h3,h4⟩:=tm hd
    have go:∀ H2,Rep X.K B G I1 H2 U af->keyS (stpL (tD X.K B0 el) vc) (λH=>SqL X.K H l xs) xs H2 [] (λkz H'=>Q (minL .non kz xs) H'):=λH2 r2 =>
     DN ds xs H2 I1 [] kz h3 h4 pW r2 ek λH' I' r' g'=>kk _ H' I' r' (g1.trans g') (KN (h4.mono g'.up))
    refine ⟨l,xs,vc,rfl,hv,(Same.rdK r1.iH h3).sq,go H1 r1,λc' o n=>⟨?_,go _ (r1.fresh n o)⟩⟩
    exact (Same.rdK (r1.fresh n o).iH h3).sq
   ·cases e6
  ·cases e6
 ·cases e4
end
section
variable {prog:Program}{w:World}{A:Around}{E:Value->Shared->Prop}{s:Shared}
theorem FM {it S:Addr}{fp wr:List Addr}{n:Nat}{P:Nat->Value->Prop}{St:Nat->Heap->Prop}{Fit:Shared->Prop}{aL:Result->Shared->Prop}{ns:List Int} (W:Walks prog w A.in1 it fp wr n P St) (cC:S∉fp)
  (hn:n=ns.length) (n0:0 < n) (hP:∀ i v,P i v->∃ x t,ns[i]?=some x/\v=.int x t) (stay:∀ s h' tk,Fit s->(∀ b o,b∉wr->b≠S->s.heap.get? b=some o->h'.get? b=some o)->Fit { s with heap:=h',toks:=tk })
  (fin:∀ t s,Fit s->aL (.ok (.ret (.int (maxI 0 ns) t))) s):∀ (left:Nat) (s:Shared) (cells:Array Value) (c j:Nat),j+left=n->St j s.heap->Fit s->CellsI 0 ns j cells->s.heap.get? S=some { cls:=.type "list", dict:=none,data:=.seq cells c,slots:=#[] } →
   codeAny (model prog w) A (.builtin "max.loop" ⟨[.ref it,.none,.ref S],[]⟩) aL s:=by
 have apart:S∉wr:=λh=>cC (W.sub _ h)
 have bC:∀ {g:Heap}{f:Obj->Obj}{b:Addr}{o:Obj},b≠S->g.get? b=some o->(g.update S f).get? b=some o:=λne e=>(get?_update_other _ _ (Ne.symm ne)).trans e
 have aI:(toString "max"++toString ".loop":String) = "max.loop":=by decide
 intro left
 induction left with
 | zero =>
  intro s cells c j len st c5 a9 slot
  refine codeAny_builtin F.entry_max_loop ?_;rw [under_plainId F.plain_max_loop _]
  refine wpAny_bind (m:=seqItems? (.ref S)) (wpAny_seqItems slot rfl (wpAny_bind (m:=tryCatch (pyNext (.ref it)) _) (wpAny_tryCatch (W.done s _ _ (len▸st) λg tk kk=>?_))))
  have all:ns.take j=ns:=List.take_of_length_le (by omega)
  cases j with
  | zero =>
   omega
  | succ m =>
   obtain ⟨t,rfl⟩:=a9
   rw [all] at slot ⊢
   exact wpAny_bind (m:=updateSeq S λ_=>#[]) (wpAny_updateSeq (kk S _ apart slot) rfl (wpAny_bind (wpAny_letGo (wpAny_pure (fin t _ (stay s _ tk c5 λx o n1 n2 e=>bC n2 (kk x o n1 e)))))))
 | succ left ih =>
  intro s cells c j len st c5 a9 slot
  refine codeAny_builtin F.entry_max_loop ?_;rw [under_plainId F.plain_max_loop _]
  refine wpAny_bind (m:=seqItems? (.ref S)) (wpAny_seqItems slot rfl (wpAny_bind (m:=tryCatch (pyNext (.ref it)) _) (wpAny_tryCatch (W.item j s _ _ (by omega) st λv g tk dG cG kk=>?_))))
  obtain ⟨x,t,ex,rfl⟩:=hP j v dG
  have aG:=kk S _ apart slot
  have cg:=stay s g tk c5 λx o n1 _ e=>kk x o n1 e
  have cH:ns.take (j+1)=ns.take j++[x]:=by rw [List.take_add_one,ex];rfl
  have next:∀ (f:Obj->Obj) (aA:Array Value) (c':Nat),(g.update S f).get? S=some { cls:=.type "list", dict:=none,data:=.seq aA c',slots:=#[] }->CellsI 0 ns (j+1) aA →
    codeAny (model prog w) A (.builtin "max.loop" ⟨[.ref it,.none,.ref S],[]⟩) aL { s with heap:=g.update S f,toks:=tk }:=λf aA c' here is =>
   ih _ aA c' (j+1) (by omega) (W.frame _ _ _ cG λb hb o e=>bC (λz=>cC (z▸hb)) e) (stay { s with heap:=g,toks:=tk } _ tk cg λx o _ n2 e=>bC n2 e) is here
  cases j with
  | zero =>
   cases a9
   refine wpAny_bind (m:=updateSeq S λ_=>#[.int x t,.int x t]) (wpAny_updateSeq aG rfl ?_)
   rw [aI]
   refine wpAny_pure ⟨plainId_quiet F.plain_max_loop _,next _ _ _ (get?_update_self _ aG rfl) ⟨t,?_⟩⟩
   rw [cH]
   rfl
  | succ m =>
   obtain ⟨t2,rfl⟩:=a9
   have ne:ns.take (m+1)≠[]:=λz=>by
    rcases List.take_eq_nil_iff.mp z with z | z
    ·exact absurd z (Nat.succ_ne_zero _)
    ·rw [z] at ex;simp at ex
   have step:maxI 0 (ns.take (m+2))=mx (maxI 0 (ns.take (m+1))) x:=by rw [cH,G4 0 ne]
   refine wpAny_bind (m:=tryCatch (holding [.int x t,.int x t] (richCompare .Gt (.int x t) (.int (maxI 0 (ns.take (m+1))) t2) >>= _)) _) (wpAny_tryCatch (wpAny_holding (wpAny_bind (gt_int (wpAny_bind (wpAny_holding (wpAny_truthy_bool (wpAny_bind (wpAny_letGo (wpAny_pure ?_))))))))))
   by_cases hb:maxI 0 (ns.take (m+1)) < x
   ·rw [if_pos (by simpa using hb)]
    refine wpAny_bind (wpAny_updateSeq aG rfl (wpAny_bind (wpAny_letGo ?_)))
    rw [aI]
    refine wpAny_pure ⟨plainId_quiet F.plain_max_loop _,next _ _ _ (get?_update_self _ aG rfl) ⟨t,?_⟩⟩
    rw [step,mx,if_pos hb]
   ·rw [if_neg (by simpa using hb)]
    refine wpAny_bind (wpAny_letGo ?_)
    rw [aI]
    refine wpAny_pure ⟨plainId_quiet F.plain_max_loop _,ih _ _ c (m+2) (by omega) cG cg ⟨t2,?_⟩ aG⟩
    rw [step,mx,if_neg hb]
theorem JT {p:Addr}{ac:List Value}{ns:List Int}{Q:Value->Shared->Prop} (hh:A.handled=none) (L:s.heap.IsList p ac.toArray) (hI:IntsAre ac ns) (n0:0 < ns.length)
  (fin:∀ t h' tk,(∀ b o,s.heap.get? b=some o->h'.get? b=some o)->Q (.int (maxI 0 ns) t) { s with heap:=h',toks:=tk }):wpAny (model prog w) A (call (.builtin "max") [.ref p]) Q E s:=by
 have low:p < s.heap.objs.size:=by obtain ⟨_,e,_⟩:=L;exact lt_size e
 refine AK F.kind_max F.plain_max F.entry_max (PySem.F.args_max1 _) ?_
 refine wpAny_bind (wpAny_of_eq (a:=[none,none]) rfl (wpAny_bind (wpAny_pure (wpAny_bind (wpAny_pyIter_list L (wpAny_bind (wpAny_newObj_type ?_)))))))
 have aI:(toString "max"++toString ".loop":String) = "max.loop":=by decide
 rw [aI]
 have W:=Walks.list (prog:=prog) (w:=w) (A:=A.in1) hh s.heap.objs.size p (ne_of_lt low) ac.toArray
 have aZ:∀ o:Obj,(s.heap.push o).objs.size=s.heap.objs.size+1:=λo=>size_push ..
 refine wpAny_pure ⟨plainId_quiet F.plain_max_loop _,FM (Fit:=λs'=>∃ h' tk,s'={ s with heap:=h',toks:=tk }/\∀ b o,s.heap.get? b=some o->h'.get? b=some o) (ns:=ns) W ?_ ?_ ?_ ?_ ?_ ?_ ac.toArray.size _ #[] 0 0 (zero_add _) ⟨⟨_,get?_push_of_some _ (get?_push_size _ rfl),rfl,rfl⟩,(L.push _).push _⟩ ⟨_,_,rfl,λb o e=>get?_push_of_some _ (get?_push_of_some _ e)⟩ rfl (get?_push_size _ rfl)⟩
 ·rw [aZ]
  intro z
  rw [mem_cons,mem_singleton] at z
  rcases z with z | z
  ·exact absurd z (succ_ne_self _)
  ·exact absurd z (ne_of_gt (lt_succ_of_lt low))
 ·rw [size_toArray,hI.length]
 ·rw [size_toArray,hI.length];exact n0
 ·intro i v hv
  exact Aq hI (by simpa using hv)
 ·rintro _ h' tk ⟨g,cH,rfl,keep⟩ k
  refine ⟨h',tk,rfl,λb o e=>k b o (λz=>?_) (λz=>?_) (keep b o e)⟩
  ·rw [mem_singleton] at z
   exact ne_of_lt (lt_size e) z
  ·rw [aZ] at z
   have:=lt_size e
   rw [z] at this
   exact absurd this (not_lt.mpr (le_succ _))
 ·rintro t _ ⟨g,tk,rfl,keep⟩
  exact fin t g tk keep
end
section
variable {X:Cx}{B:BB}{e:Expr}{pos p:Pos}{t:M (List D)}
theorem Ke (hc:X.calm=true):CallR X (.builtin "max") (λxs H Q=>∃ (p:Addr) (ns:List Int),xs=[.ref p]/\SqL X.K H p (ns.map V.int)/\0 < ns.length/\Q (.int (maxI 0 ns)) H):=by
 rintro aa s U H xs us Q I r ⟨p,ns,rfl,hq,n0,q⟩
 obtain ⟨u,rfl,e⟩:=r.one
 cases e
 obtain ⟨ac,rv,tl,hz⟩:=I.list hq
 exact JT (I.ok.hd hc) tl.isList (yo rv) n0 λt h' tk keep=>⟨.int (maxI 0 ns),H,I.kept keep,⟨t,rfl⟩,q⟩
noncomputable def maxNF (ds:List D):Option D:=match ds with
 | [.lst xs]=>match intsD xs with
  | some ns=>if 0 < ns.length then some (.int (maxI 0 ns)) else none
  | none=>none
 | _=>none
theorem Iy {ns:List Int} (h:0 < ns.length):maxNF [.lst (ns.map D.int)]=some (.int (maxI 0 ns)):=by
 unfold maxNF
 simp only [Ae]
 exact if_pos h
theorem Jr (hc:X.calm=true) (hg:Gl X "max") (hm:X.mg "max"=none) (ha:AD X B [e] t) (he:starEach [e] X.env=(false,eval e X.env)::starEach [] X.env:=by rfl) (az:(backTo pos (starEach [] X.env)).any (·.1)=false:=by rfl) :
  ED X B (.Call (.Name "max" p) [e] [] pos) (fn1 maxNF t):=uG (Ke hc) (λds d e B G I H U Y xs Q r h k=>by
 unfold maxNF at e
 split at e
 ·rename_i ys
  cases en:intsD ys with
  | none=>rw [en] at e;cases e
  | some ns =>
   rw [en] at e
   obtain ⟨n0,rfl⟩:=tJ e
   rw [zg en] at h
   obtain ⟨x,rfl,hx⟩:=h.one
   obtain ⟨q,zs,rfl,h3,h4⟩:=tm hx
   rw [yt h4] at h3
   exact ⟨q,ns,rfl,(Same.rdK r.iH h3).sq,n0,k.now r (Is.int _)⟩
 ·cases e) hg hm boot_max ha (by decide) (by decide) he az
end
section
variable {X:Cx}{B:BB}{e:Expr}{pos p:Pos}{t:M (List D)}
theorem J3:CallR X (.type "int") (λxs H Q=>∃ b:Bool,xs=[.bl b]/\Q (.int (if b then 1 else 0)) H):=by
 intro aa s U H xs us Q I r h
 obtain ⟨b,rfl,q⟩:=h
 obtain ⟨u,rfl,ru⟩:=vals1 r
 cases ru
 exact call_int_1 (meets_int_new_bool b) (show (Made.int (if b then 1 else 0)).post _ s from ⟨rfl,⟨.int _,H,I.tok _,⟨_,rfl⟩,q⟩⟩)
noncomputable def intBF (ds:List D):Option D:=match ds with
 | [.bl b]=>some (.int (if b then 1 else 0))
 | _=>none
theorem EU (hg:Gl X "int") (hm:X.mg "int"=none) (ha:AD X B [e] t) (he:starEach [e] X.env=(false,eval e X.env)::starEach [] X.env:=by rfl) (az:(backTo pos (starEach [] X.env)).any (·.1)=false:=by rfl) :
  ED X B (.Call (.Name "int" p) [e] [] pos) (fn1 intBF t):=Dr J3 (λds d e B G I H U Y xs Q r h k=>by
 unfold intBF at e
 split at e
 ·cases e
  obtain ⟨y,rfl,hx⟩:=h.one
  rw [tV hx]
  exact ⟨_,rfl,k.now r (Is.int _)⟩
 ·cases e) hg hm boot_int ha (by decide) (by decide) he az
end
def mi (m y:Int):Int:=if y < m then y else m
def minI:List Int->Int
 | []=>0
 | x::xs=>xs.foldl mi x
theorem Gi {ns:List Int} (ne:ns≠[]) (y:Int):minI (ns++[y])=mi (minI ns) y:=by
 match ns,ne with
 | x::xs,_=>simp [minI,foldl_append]
def CellsM (ns:List Int) (j:Nat) (cells:Array Value):Prop:=match j with
 | 0=>cells=#[]
 | j+1=>∃ t,cells=#[.int (minI (ns.take (j+1))) t,.int (minI (ns.take (j+1))) t]
section
variable {prog:Program}{w:World}{A:Around}{E:Value->Shared->Prop}{s:Shared}
theorem Lf {it S:Addr}{fp wr:List Addr}{n:Nat}{P:Nat->Value->Prop}{St:Nat->Heap->Prop}{Fit:Shared->Prop}{aL:Result->Shared->Prop}{ns:List Int} (W:Walks prog w A.in1 it fp wr n P St) (cC:S∉fp)
  (hn:n=ns.length) (n0:0 < n) (hP:∀ i v,P i v->∃ x t,ns[i]?=some x/\v=.int x t) (stay:∀ s h' tk,Fit s->(∀ b o,b∉wr->b≠S->s.heap.get? b=some o->h'.get? b=some o)->Fit { s with heap:=h',toks:=tk })
  (fin:∀ t s,Fit s->aL (.ok (.ret (.int (minI ns) t))) s):∀ (left:Nat) (s:Shared) (cells:Array Value) (c j:Nat),j+left=n->St j s.heap->Fit s->CellsM ns j cells->s.heap.get? S=some { cls:=.type "list", dict:=none,data:=.seq cells c,slots:=#[] } →
   codeAny (model prog w) A (.builtin "min.loop" ⟨[.ref it,.none,.ref S],[]⟩) aL s:=by
 have apart:S∉wr:=λh=>cC (W.sub _ h)
 have bC:∀ {g:Heap}{f:Obj->Obj}{b:Addr}{o:Obj},b≠S->g.get? b=some o->(g.update S f).get? b=some o:=λne e=>(get?_update_other _ _ (Ne.symm ne)).trans e
 have aI:(toString "min"++toString ".loop":String) = "min.loop":=by decide
 intro left
 induction left with
 | zero =>
  intro s cells c j len st c5 a9 slot
  refine codeAny_builtin F.entry_min_loop ?_;rw [under_plainId F.plain_min_loop _]
  refine wpAny_bind (m:=seqItems? (.ref S)) (wpAny_seqItems slot rfl (wpAny_bind (m:=tryCatch (pyNext (.ref it)) _) (wpAny_tryCatch (W.done s _ _ (len▸st) λg tk kk=>?_))))
  have all:ns.take j=ns:=List.take_of_length_le (by omega)
  cases j with
  | zero =>
   omega
  | succ m =>
   obtain ⟨t,rfl⟩:=a9
   rw [all] at slot ⊢
   exact wpAny_bind (m:=updateSeq S λ_=>#[]) (wpAny_updateSeq (kk S _ apart slot) rfl (wpAny_bind (wpAny_letGo (wpAny_pure (fin t _ (stay s _ tk c5 λx o n1 n2 e=>bC n2 (kk x o n1 e)))))))
 | succ left ih =>
  intro s cells c j len st c5 a9 slot
  refine codeAny_builtin F.entry_min_loop ?_;rw [under_plainId F.plain_min_loop _]
  refine wpAny_bind (m:=seqItems? (.ref S)) (wpAny_seqItems slot rfl (wpAny_bind (m:=tryCatch (pyNext (.ref it)) _) (wpAny_tryCatch (W.item j s _ _ (by omega) st λv g tk dG cG kk=>?_))))
  obtain ⟨x,t,ex,rfl⟩:=hP j v dG
  have aG:=kk S _ apart slot
  have cg:=stay s g tk c5 λx o n1 _ e=>kk x o n1 e
  have cH:ns.take (j+1)=ns.take j++[x]:=by rw [List.take_add_one,ex];rfl
  have next:∀ (f:Obj->Obj) (aA:Array Value) (c':Nat),(g.update S f).get? S=some { cls:=.type "list", dict:=none,data:=.seq aA c',slots:=#[] }->CellsM ns (j+1) aA →
    codeAny (model prog w) A (.builtin "min.loop" ⟨[.ref it,.none,.ref S],[]⟩) aL { s with heap:=g.update S f,toks:=tk }:=λf aA c' here is =>
   ih _ aA c' (j+1) (by omega) (W.frame _ _ _ cG λb hb o e=>bC (λz=>cC (z▸hb)) e) (stay { s with heap:=g,toks:=tk } _ tk cg λx o _ n2 e=>bC n2 e) is here
  cases j with
  | zero =>
   cases a9
   refine wpAny_bind (m:=updateSeq S λ_=>#[.int x t,.int x t]) (wpAny_updateSeq aG rfl ?_)
   rw [aI]
   refine wpAny_pure ⟨plainId_quiet F.plain_min_loop _,next _ _ _ (get?_update_self _ aG rfl) ⟨t,?_⟩⟩
   rw [cH]
   rfl
  | succ m =>
   obtain ⟨t2,rfl⟩:=a9
   have ne:ns.take (m+1)≠[]:=λz=>by
    rcases List.take_eq_nil_iff.mp z with z | z
    ·exact absurd z (Nat.succ_ne_zero _)
    ·rw [z] at ex;simp at ex
   have step:minI (ns.take (m+2))=mi (minI (ns.take (m+1))) x:=by rw [cH,Gi ne]
   refine wpAny_bind (m:=tryCatch (holding [.int x t,.int x t] (richCompare .Lt (.int x t) (.int (minI (ns.take (m+1))) t2) >>= _)) _) (wpAny_tryCatch (wpAny_holding (wpAny_bind (lt_int (wpAny_bind (wpAny_holding (wpAny_truthy_bool (wpAny_bind (wpAny_letGo (wpAny_pure ?_))))))))))
   by_cases hb:x < minI (ns.take (m+1))
   ·rw [if_pos (by simpa using hb)]
    refine wpAny_bind (wpAny_updateSeq aG rfl (wpAny_bind (wpAny_letGo ?_)))
    rw [aI]
    refine wpAny_pure ⟨plainId_quiet F.plain_min_loop _,next _ _ _ (get?_update_self _ aG rfl) ⟨t,?_⟩⟩
    rw [step,mi,if_pos hb]
   ·rw [if_neg (by simpa using hb)]
    refine wpAny_bind (wpAny_letGo ?_)
    rw [aI]
    refine wpAny_pure ⟨plainId_quiet F.plain_min_loop _,ih _ _ c (m+2) (by omega) cG cg ⟨t2,?_⟩ aG⟩
    rw [step,mi,if_neg hb]
theorem Mz {p:Addr}{ac:List Value}{ns:List Int}{Q:Value->Shared->Prop} (hh:A.handled=none) (L:s.heap.IsList p ac.toArray) (hI:IntsAre ac ns) (n0:0 < ns.length)
  (fin:∀ t h' tk,(∀ b o,s.heap.get? b=some o->h'.get? b=some o)->Q (.int (minI ns) t) { s with heap:=h',toks:=tk }):wpAny (model prog w) A (call (.builtin "min") [.ref p]) Q E s:=by
 have low:p < s.heap.objs.size:=by obtain ⟨_,e,_⟩:=L;exact lt_size e
 refine AK F.kind_min F.plain_min F.entry_min (PySem.F.args_min1 _) ?_
 refine wpAny_bind (wpAny_of_eq (a:=[none,none]) rfl (wpAny_bind (wpAny_pure (wpAny_bind (wpAny_pyIter_list L (wpAny_bind (wpAny_newObj_type ?_)))))))
 have aI:(toString "min"++toString ".loop":String) = "min.loop":=by decide
 rw [aI]
 have W:=Walks.list (prog:=prog) (w:=w) (A:=A.in1) hh s.heap.objs.size p (ne_of_lt low) ac.toArray
 have aZ:∀ o:Obj,(s.heap.push o).objs.size=s.heap.objs.size+1:=λo=>size_push ..
 refine wpAny_pure ⟨plainId_quiet F.plain_min_loop _,Lf (Fit:=λs'=>∃ h' tk,s'={ s with heap:=h',toks:=tk }/\∀ b o,s.heap.get? b=some o->h'.get? b=some o) (ns:=ns) W ?_ ?_ ?_ ?_ ?_ ?_ ac.toArray.size _ #[] 0 0 (zero_add _) ⟨⟨_,get?_push_of_some _ (get?_push_size _ rfl),rfl,rfl⟩,(L.push _).push _⟩ ⟨_,_,rfl,λb o e=>get?_push_of_some _ (get?_push_of_some _ e)⟩ rfl (get?_push_size _ rfl)⟩
 ·rw [aZ]
  intro z
  rw [mem_cons,mem_singleton] at z
  rcases z with z | z
  ·exact absurd z (succ_ne_self _)
  ·exact absurd z (ne_of_gt (lt_succ_of_lt low))
 ·rw [size_toArray,hI.length]
 ·rw [size_toArray,hI.length];exact n0
 ·intro i v hv
  exact Aq hI (by simpa using hv)
 ·rintro _ h' tk ⟨g,cH,rfl,keep⟩ k
  refine ⟨h',tk,rfl,λb o e=>k b o (λz=>?_) (λz=>?_) (keep b o e)⟩
  ·rw [mem_singleton] at z
   exact ne_of_lt (lt_size e) z
  ·rw [aZ] at z
   have:=lt_size e
   rw [z] at this
   exact absurd this (not_lt.mpr (le_succ _))
 ·rintro t _ ⟨g,tk,rfl,keep⟩
  exact fin t g tk keep
end
section
variable {X:Cx}{B:BB}{e:Expr}{pos p:Pos}{t:M (List D)}
theorem Hv (hc:X.calm=true):CallR X (.builtin "min") (λxs H Q=>∃ (p:Addr) (ns:List Int),xs=[.ref p]/\SqL X.K H p (ns.map V.int)/\0 < ns.length/\Q (.int (minI ns)) H):=by
 rintro aa s U H xs us Q I r ⟨p,ns,rfl,hq,n0,q⟩
 obtain ⟨u,rfl,e⟩:=r.one
 cases e
 obtain ⟨ac,rv,tl,hz⟩:=I.list hq
 exact Mz (I.ok.hd hc) tl.isList (yo rv) n0 λt h' tk keep=>⟨.int (minI ns),H,I.kept keep,⟨t,rfl⟩,q⟩
noncomputable def minNF (ds:List D):Option D:=match ds with
 | [.lst xs]=>match intsD xs with
  | some ns=>if 0 < ns.length then some (.int (minI ns)) else none
  | none=>none
 | _=>none
theorem HB {ns:List Int} (h:0 < ns.length):minNF [.lst (ns.map D.int)]=some (.int (minI ns)):=by
 unfold minNF
 simp only [Ae]
 exact if_pos h
theorem IJ (hc:X.calm=true) (hg:Gl X "min") (hm:X.mg "min"=none) (ha:AD X B [e] t) (he:starEach [e] X.env=(false,eval e X.env)::starEach [] X.env:=by rfl) (az:(backTo pos (starEach [] X.env)).any (·.1)=false:=by rfl) :
  ED X B (.Call (.Name "min" p) [e] [] pos) (fn1 minNF t):=uG (Hv hc) (λds d e B G I H U Y xs Q r h k=>by
 unfold minNF at e
 split at e
 ·rename_i ys
  cases en:intsD ys with
  | none=>rw [en] at e;cases e
  | some ns =>
   rw [en] at e
   obtain ⟨n0,rfl⟩:=tJ e
   rw [zg en] at h
   obtain ⟨x,rfl,hx⟩:=h.one
   obtain ⟨q,zs,rfl,h3,h4⟩:=tm hx
   rw [yt h4] at h3
   exact ⟨q,ns,rfl,(Same.rdK r.iH h3).sq,n0,k.now r (Is.int _)⟩
 ·cases e) hg hm boot_min ha (by decide) (by decide) he az
end
end DL
namespace DL
open PySem L2
variable {α Z:Type}
def wp (m:M α) (Y:Gm) (Q:α->Gm->Prop):Prop:=∃ a af,m Y=some (a,af)/\Q a af
def wpF (g:List R->Option (R×List R)) (rs:List R) (Q:R->List R->Prop):Prop:=∃ r aY,g rs=some (r,aY)/\Q r aY
def wpB (g:List R->Option (R×List R)) (c ds:List D) (Q:R->List D->Prop):Prop:=∃ r c',bcF g c ds=some (r,c')/\Q r c'
section
variable {Y:Gm}{Q:α->Gm->Prop}{QD:D->Gm->Prop}{QL:List D->Gm->Prop}{QB:Bool->Gm->Prop}{QS:Fl->Gm->Prop}{QU:Unit->Gm->Prop}
theorem wp.mono {m:M α}{Q':α->Gm->Prop} (h:wp m Y Q) (f:∀ a Y,Q a Y->Q' a Y):wp m Y Q':=by
 obtain ⟨a,af,e,q⟩:=h
 exact ⟨a,af,e,f _ _ q⟩
@[simp ↓] theorem vU {a:α}:wp (ret a) Y Q↔Q a Y:=by
 constructor
 ·rintro ⟨b,af,e,q⟩;cases e;exact q
 ·intro q;exact ⟨_,_,rfl,q⟩
@[simp ↓] theorem tM {Z:Type}{m:M Z}{f:Z->M α}:wp (bnd m f) Y Q↔wp m Y λb ab=>wp (f b) ab Q:=by
 constructor
 ·rintro ⟨a,af,e,q⟩
  obtain ⟨b,ab,e1,e2⟩:=sN e
  exact ⟨b,ab,e1,a,af,e2,q⟩
 ·rintro ⟨b,ab,e1,a,af,e2,q⟩
  exact ⟨a,af,by unfold bnd;rw [e1];exact e2,q⟩
@[simp ↓] theorem yB {a:α}:wp (lft (some a)) Y Q↔Q a Y:=by
 constructor
 ·rintro ⟨b,af,e,q⟩;cases e;exact q
 ·intro q;exact ⟨_,_,rfl,q⟩
theorem sR {o:Option α}{a:α} (h:o=some a):wp (lft o) Y Q↔Q a Y:=by rw [h,yB]
@[simp ↓] theorem BM {i:Nat}:wp (nm i) Y QD↔match Y[i]? with
  | some (some (.val d))=>QD d Y
  | some (some (.own ds))=>QD (.lst ds) (Y.set i (some (.val (.lst ds))))
  | some (some (.fro ds))=>QD (.lst ds) Y
  | _=>False:=by
 unfold wp nm
 rcases e:Y[i]? with _ | _ | r
 ·simp
 ·simp
 ·cases r<;>simp<;>exact ⟨λ⟨_,_,⟨h1,h2⟩,q⟩=>by subst h1;subst h2;exact q,λq=>⟨_,_,⟨rfl,rfl⟩,q⟩⟩
@[simp ↓] theorem N3 {F:D->D->Option α}{a b:M D}:wp (op2 F a b) Y Q↔wp a Y λx ab=>wp b ab λy ah=>wp (lft (F x y)) ah Q:=by simp [op2]
@[simp ↓] theorem MW {F:List D->Option α}{t:M (List D)}:wp (fn1 F t) Y Q↔wp t Y λds ab=>wp (lft (F ds)) ab Q:=by simp [fn1]
@[simp ↓] theorem Nc:wp nilA Y QL↔QL [] Y:=by simp [nilA]
@[simp ↓] theorem MZ {g:M D}{t:M (List D)}:wp (consA g t) Y QL↔wp g Y λd ab=>wp t ab λds ah=>QL (d::ds) ah:=by simp [consA]
@[simp ↓] theorem Nf {t:M (List D)}:wp (tupA t) Y QD↔wp t Y λds ab=>wp (lft (if ds.length<=lim then some (.tup ds) else none)) ab QD:=by simp [tupA]
@[simp ↓] theorem Ow {t:M (List D)}:wp (lstA t) Y QL↔wp t Y λds ab=>wp (lft (if ds.length<=lim then some ds else none)) ab QL:=by simp [lstA]
@[simp ↓] theorem Ol {t:M (List D)}:wp (frz t) Y QD↔wp t Y λds ab=>QD (.lst ds) ab:=by simp [frz]
@[simp ↓] theorem NH {g:M D}:wp (tst g) Y QB↔wp g Y λd ab=>wp (lft (asB d)) ab QB:=by simp [tst]
@[simp] theorem OE {b:Bool}:asB (.bl b)=some b:=rfl
@[simp] theorem MA {b:Int}:asI (.int b)=some b:=rfl
@[simp ↓] theorem MM {F F':D->D->Option D}{a b c:M D}:wp (chn F F' a b c) Y QD↔wp a Y λx ab=>wp b ab λy ah=>wp (lft (F x y)) ah λz aR=>wp (lft (asB z)) aR λk aP=>if k=true then wp c aP λw dU=>wp (lft (F' y w)) dU QD else QD (.bl false) aP:=by
 simp only [chn,tM]
 constructor<;>(intro h;refine h.mono λx ab h=>h.mono λy ah h=>h.mono λz aR h=>h.mono λk aP h=>?_)<;>(cases k<;>simpa using h)
@[simp ↓] theorem NZ {a b:M Bool}:wp (andT a b) Y QB↔wp a Y λk ab=>if k=true then wp b ab QB else QB false ab:=by
 simp only [andT,tM]
 constructor<;>(intro h;refine h.mono λk ab h=>?_)<;>(cases k<;>simpa using h)
@[simp ↓] theorem M7 {a b:M Bool}:wp (orT a b) Y QB↔wp a Y λk ab=>if k=true then QB true ab else wp b ab QB:=by
 simp only [orT,tM]
 constructor<;>(intro h;refine h.mono λk ab h=>?_)<;>(cases k<;>simpa using h)
@[simp ↓] theorem M4 {a:M Bool}:wp (notT a) Y QB↔wp a Y λk ab=>QB (!k) ab:=by simp [notT]
@[simp ↓] theorem Oh {a b:M D}:wp (andV a b) Y QD↔wp a Y λd ab=>wp (lft (asB d)) ab λk ah=>if k=true then wp b ah QD else QD (.bl false) ah:=by
 simp only [andV,tM]
 constructor<;>(intro h;refine h.mono λd ab h=>h.mono λk ah h=>?_)<;>(cases k<;>simpa using h)
theorem Dd {a b:M Fl}:wp (seqS a b) Y QS↔wp a Y λf ab=>match f with
  | .nx=>wp b ab QS
  | .rt r=>QS (.rt r) ab
  | .bk=>QS .bk ab
  | .ct=>QS .ct ab:=by
 simp only [seqS,tM]
 constructor<;>(intro h;refine h.mono λf ab h=>?_)<;>(cases f<;>simpa using h)
@[simp ↓] theorem M5 {a:M D}:wp (dropS a) Y QS↔wp a Y λ_ ab=>QS .nx ab:=by simp [dropS]
@[simp ↓] theorem Nx {a:M D}:wp (retS a) Y QS↔wp a Y λd ab=>QS (.rt (.val d)) ab:=by simp [retS]
@[simp ↓] theorem OI {a:M (List D)}:wp (retO a) Y QS↔wp a Y λd ab=>QS (.rt (.own d)) ab:=by simp [retO]
@[simp ↓] theorem Nz {c:M Bool}{a b:M Fl}:wp (ifS c a b) Y QS↔wp c Y λk ab=>if k=true then wp a ab QS else wp b ab QS:=by
 simp only [ifS,tM]
 constructor<;>(intro h;refine h.mono λk ab h=>?_)<;>(cases k<;>simpa using h)
@[simp ↓] theorem Ob {i:Nat}{q:R}:wp (putS i q) Y QU↔i < Y.length/\QU () (Y.set i (some q)):=by
 unfold wp putS
 constructor
 ·rintro ⟨a,af,e,h⟩
  obtain ⟨h1,h2⟩:=tJ e
  cases h2
  exact ⟨h1,h⟩
 ·rintro ⟨h1,h2⟩
  exact ⟨(),_,by rw [if_pos h1],h2⟩
@[simp ↓] theorem NX {i:Nat}{d:D}:wp (tgN i d) Y QU↔i < Y.length/\QU () (Y.set i (some (.val d))):=by simp [tgN]
@[simp ↓] theorem NG:wp (tgNil []) Y QU↔QU () Y:=by simp [tgNil]
@[simp ↓] theorem MS {f:D->M Unit}{t:List D->M Unit}{d:D}{ds:List D}:wp (tgCons f t (d::ds)) Y QU↔wp (f d) Y λ_ ab=>wp (t ds) ab QU:=by simp [tgCons]
@[simp ↓] theorem MO {n:Nat}{t:List D->M Unit}{ds:List D}:wp (tgTup n t (.tup ds)) Y QU↔ds.length=n/\wp (t ds) Y QU:=by
 unfold tgTup
 by_cases h:ds.length=n
 ·simp [h]
 ·simp only [h,if_false,false_and,iff_false]
  rintro ⟨_,_,e,_⟩;cases e
@[simp ↓] theorem NY {g:M D}{f:D->M Unit}:wp (asgS g f) Y QS↔wp g Y λd ab=>wp (f d) ab λ_ ah=>QS .nx ah:=by simp [asgS]
@[simp ↓] theorem NU {i:Nat}{g:M D}:wp (setV i g) Y QS↔wp g Y λd ab=>i < ab.length/\QS .nx (ab.set i (some (.val d))):=by simp [setV]
@[simp ↓] theorem Nq {i:Nat}{g:M (List D)}:wp (setO i g) Y QS↔wp g Y λd ab=>i < ab.length/\QS .nx (ab.set i (some (.own d))):=by simp [setO]
@[simp ↓] theorem vE {i:Nat}{m:M α}:wp (mutS i m) Y Q↔isMut Y i=true/\wp m Y Q:=by
 unfold mutS wp
 by_cases h:isMut Y i=true
 ·simp [h]
 ·simp [h]
@[simp ↓] theorem N8 {i:Nat}{F:List D->Option (List D)}:wp (wr i F) Y QU↔match Y[i]? with
  | some (some (.own ds))=>∃ es,F ds=some es/\QU () (Y.set i (some (.own es)))
  | some (some (.bor ds))=>∃ es,F ds=some es/\QU () (Y.set i (some (.bor es)))
  | _=>False:=by
 unfold wp wr
 rcases e:Y[i]? with _ | _ | r
 ·simp
 ·simp
 ·cases r with
  | val d=>simp
  | fro d=>simp
  | dic d=>simp
  | own ds =>
   rcases he:F ds with _ | es
   ·simp [he]
   ·simp [he]
    exact ⟨λ⟨_,q⟩=>q,λq=>⟨(),q⟩⟩
  | bor ds =>
   rcases he:F ds with _ | es
   ·simp [he]
   ·simp [he]
    exact ⟨λ⟨_,q⟩=>q,λq=>⟨(),q⟩⟩
@[simp ↓] theorem OB {i:Nat}{g:M D}:wp (appS i g) Y QS↔isMut Y i=true/\wp g Y λd ab=>wp (wr i (appF d)) ab λ_ ah=>QS .nx ah:=by simp only [appS,vE,tM,vU]
@[simp ↓] theorem Nd {i:Nat}{g:M D}:wp (extS i g) Y QS↔isMut Y i=true/\wp g Y λd ab=>wp (wr i (extF d)) ab λ_ ah=>QS .nx ah:=by simp only [extS,vE,tM,vU]
@[simp ↓] theorem NE {i:Nat}{gi gv:M D}:wp (stS i gi gv) Y QS↔wp gv Y λd ab=>isMut ab i=true/\wp gi ab λn ah=>wp (lft (asI n)) ah λk aR=>wp (wr i (stF k d)) aR λ_ aP=>QS .nx aP:=by simp only [stS,vE,tM,vU]
@[simp ↓] theorem Oa {i:Nat}:wp (look i) Y QD↔match Y[i]? with
  | some (some (.own ds))=>QD (.lst ds) Y
  | some (some (.bor ds))=>QD (.lst ds) Y
  | _=>False:=by
 unfold wp look
 rcases e:Y[i]? with _ | _ | r
 ·simp
 ·simp
 ·cases r<;>simp<;>exact ⟨λ⟨_,_,⟨h1,h2⟩,q⟩=>by subst h1;subst h2;exact q,λq=>⟨_,_,⟨rfl,rfl⟩,q⟩⟩
@[simp ↓] theorem M8 {i:Nat}{g:M D}:wp (atN i g) Y QD↔isMut Y i=true/\wp g Y λn ab=>wp (look i) ab λl ah=>wp (lft (ixF l n)) ah QD:=by simp only [atN,vE,tM]
@[simp ↓] theorem NR {i:Nat}:wp (lenN i) Y QD↔wp (look i) Y λl ah=>wp (lft (lenF [l])) ah QD:=by simp only [lenN,tM]
@[simp ↓] theorem Nh {neg:Bool}{i:Nat}{g:M D}:wp (cmpN neg i g) Y QD↔isMut Y i=true/\wp g Y λn ab=>wp (look i) ab λl ah=>wp (lft (eqF neg l n)) ah QD:=by simp only [cmpN,vE,tM]
@[simp ↓] theorem M6 {g:M D}{QO:Option Int->Gm->Prop}:wp (prt g) Y QO↔wp g Y λd ab=>wp (lft (asI d)) ab λi ah=>QO (some i) ah:=by simp [prt]
@[simp ↓] theorem Oe {F:D->Option Int->Option Int->Option α}{g:M D}{gl gh:M (Option Int)}:wp (sl3 F g gl gh) Y Q↔wp g Y λd ab=>wp gl ab λl ah=>wp gh ah λh aR=>wp (lft (F d l h)) aR Q:=by simp [sl3]
@[simp ↓] theorem C' {g:M D}:wp (itS g) Y QL↔wp g Y λd ab=>wp (lft (seqI d)) ab QL:=by simp [itS]
@[simp ↓] theorem Os {it:M (List D)}{aB:D->M Unit}{body:M Fl}:wp (forS it aB body) Y QS↔wp it Y λds ab=>wp (forM aB body ds) ab QS:=by simp [forS]
@[simp ↓] theorem MI {i:Nat}{g:List R->Option (R×List R)}{t:M (List D)}{QR:R->Gm->Prop}:wp (callB i g t) Y QR↔isMut Y i=true/\wp t Y λds ab=>match ab[i]? with
  | some (some (.own c))=>wpB g c ds λr c'=>QR r (ab.set i (some (.own c')))
  | some (some (.bor c))=>wpB g c ds λr c'=>QR r (ab.set i (some (.bor c')))
  | _=>False:=by
 simp only [callB,vE,tM]
 refine and_congr_right λ_=>?_
 have aQ:∀ (ds:List D) (ab:Gm),wp (λY:Gm=>match Y[i]? with
   | some (some (.own c))=>match bcF g c ds with
    | some (r,c')=>some (r,Y.set i (some (.own c')))
    | none=>none
   | some (some (.bor c))=>match bcF g c ds with
    | some (r,c')=>some (r,Y.set i (some (.bor c')))
    | none=>none
   | _=>none) ab QR↔(match ab[i]? with
  | some (some (.own c))=>wpB g c ds λr c'=>QR r (ab.set i (some (.own c')))
  | some (some (.bor c))=>wpB g c ds λr c'=>QR r (ab.set i (some (.bor c')))
  | _=>False):=by
  intro ds ab
  unfold wp wpB
  dsimp only
  rcases e:ab[i]? with _ | _ | r
  ·simp
  ·simp
  ·cases r with
   | val d=>simp
   | fro d=>simp
   | dic d=>simp
   | own c =>
    rcases he:bcF g c ds with _ | ⟨r,c'⟩
    ·simp [he]
    ·simp only [he]
     constructor
     ·rintro ⟨a,b,h,q⟩;cases h;exact ⟨_,_,rfl,q⟩
     ·rintro ⟨a,b,h,q⟩;cases h;exact ⟨_,_,rfl,q⟩
   | bor c =>
    rcases he:bcF g c ds with _ | ⟨r,c'⟩
    ·simp [he]
    ·simp only [he]
     constructor
     ·rintro ⟨a,b,h,q⟩;cases h;exact ⟨_,_,rfl,q⟩
     ·rintro ⟨a,b,h,q⟩;cases h;exact ⟨_,_,rfl,q⟩
 constructor
 ·intro h;exact h.mono λds ab h=>(aQ ds ab).mp h
 ·intro h;exact h.mono λds ab h=>(aQ ds ab).mpr h
@[simp ↓] theorem ML {i:Nat}{g:List R->Option (R×List R)}{t:M (List D)}:wp (cbV i g t) Y QD↔wp (callB i g t) Y λr ab=>wp (lft (asV r)) ab QD:=by simp only [cbV,tM]
@[simp] theorem M' {d:D}:asV (.val d)=some d:=rfl
@[simp] theorem Om {d:List D}:asO (.own d)=some d:=rfl
theorem u4 {aB:D->M Unit}{body:M Fl}{ds:List D} (J:Nat->Gm->Prop) (h0:J 0 Y)
  (hs:∀ (i:Nat) (d:D) (Y:Gm),ds[i]?=some d->J i Y->wp (aB d) Y λ_ ab=>wp body ab λf ah=>match f with
   | .nx=>J (i+1) ah
   | .ct=>J (i+1) ah
   | .bk=>QS .nx ah
   | .rt r=>QS (.rt r) ah) (hd:∀ Y,J ds.length Y->QS .nx Y):wp (forM aB body ds) Y QS:=by
 have aQ:∀ (n:Nat) (es:List D) (Y:Gm) (i:Nat),es.length=n->ds.drop i=es->i<=ds.length->J i Y->wp (forM aB body es) Y QS:=by
  intro n
  induction n with
  | zero =>
   intro es Y i hl he hi hj
   have:es=[]:=length_eq_zero_iff.mp hl
   subst this
   have bQ:i=ds.length:=by
    have:=congrArg List.length he
    rw [length_drop] at this
    simp at this;omega
   subst bQ
   exact ⟨_,_,rfl,hd Y hj⟩
  | succ n ih =>
   intro es Y i hl he hi hj
   cases es with
   | nil=>simp at hl
   | cons d es =>
    have bE:i < ds.length:=by
     have:=congrArg List.length he
     rw [length_drop,length_cons] at this
     omega
    have pX:ds.drop i=ds[i]::ds.drop (i+1):=drop_eq_getElem_cons bE
    rw [pX] at he
    injection he with e1 e2
    have bK:ds[i]?=some d:=by rw [getElem?_eq_getElem bE,e1]
    have step:=hs i d Y bK hj
    rw [forM,tM]
    refine step.mono λ_ ab h1=>?_
    rw [tM]
    refine h1.mono λf ah h2=>?_
    cases f with
    | nx=>exact ih es ah (i+1) (by simpa using hl) e2 bE h2
    | ct=>exact ih es ah (i+1) (by simpa using hl) e2 bE h2
    | bk=>exact ⟨_,_,rfl,h2⟩
    | rt r=>exact ⟨_,_,rfl,h2⟩
 exact aQ ds.length ds Y 0 rfl rfl (zero_le _) h0
theorem xT {n ar:Nat}{body:M Fl}{rs:List R}{QR:R->List R->Prop} (hl:rs.length=ar) (h:wp body (rs.map some++replicate (n - rs.length) none) λf af=>∃ r,flR f=some r/\∃ l,fin rs af=some l/\QR r l):wpF (fnD n ar body) rs QR:=by
 obtain ⟨f,af,e,r,e1,l,e2,q⟩:=h
 refine ⟨r,l,?_,q⟩
 unfold fnD
 rw [if_pos hl]
 unfold fnD1
 rw [e]
 simp only [e1,e2]
theorem uE {g:List R->Option (R×List R)}{ds:List D}{d:D} (h:wpF g (ds.map .val) λr _=>r=.val d):cvF g ds=some d:=by
 obtain ⟨r,aY,e,rfl⟩:=h
 unfold cvF
 rw [e]
theorem DU {g:List R->Option (R×List R)}{ds:List D}{P:List D->Prop} (h:wpF g (ds.map .val) λr _=>∃ d,r=.own d/\P d):∃ d,coF g ds=some d/\P d:=by
 obtain ⟨r,aY,e,d,rfl,hp⟩:=h
 exact ⟨d,by unfold coF;rw [e],hp⟩
theorem Ml {g:List R->Option (R×List R)}{c ds:List D}{QR:R->List D->Prop} (h:wpF g (.bor c::ds.map .val) λr aY=>∃ c' t,aY=.bor c'::t/\QR r c'):wpB g c ds QR:=by
 obtain ⟨r,aY,e,c',t,rfl,q⟩:=h
 exact ⟨r,c',by unfold bcF;rw [e],q⟩
end
end DL
namespace DL
open PySem L2
section
variable {α:Type}{Y:Gm}{Q:α->Gm->Prop}{QD:D->Gm->Prop}{QL:List D->Gm->Prop}{i j:Int}
@[simp ↓] theorem uO {c:Prop} [Decidable c]{a:α}:wp (lft (if c then some a else none)) Y Q↔c/\Q a Y:=by
 by_cases h:c
 ·simp [h]
 ·simp only [h,if_false,false_and,iff_false]
  rintro ⟨_,_,e,_⟩;cases e
@[simp ↓] theorem NB:wp (λ_=>(none:Option (α×Gm))) Y Q↔False:=by
 simp only [iff_false]
 rintro ⟨_,_,e,_⟩;cases e
@[simp] theorem Ou:subI (.int i) (.int j)=some (.int (i - j)):=rfl
@[simp] theorem N2:addF (.int i) (.int j)=some (.int (i+j)):=rfl
@[simp] theorem f_lt:ltI (.int i) (.int j)=some (.bl (decide (i < j))):=rfl
@[simp] theorem f_le:leI (.int i) (.int j)=some (.bl (decide (i<=j))):=rfl
@[simp] theorem f_gt:gtI (.int i) (.int j)=some (.bl (decide (j < i))):=rfl
@[simp] theorem f_ge:geI (.int i) (.int j)=some (.bl (decide (j<=i))):=rfl
@[simp ↓] theorem NI:wp (lft (modI (.int i) (.int j))) Y QD↔0 < j/\QD (.int (i % j)) Y:=by simp [modI,intF]
@[simp ↓] theorem NW:wp (lft (divI (.int i) (.int j))) Y QD↔(0 < j/\j < 2 ^ 200)/\QD (.int (i / j)) Y:=by simp only [divI,intF,decide_eq_true_eq,uO]
@[simp ↓] theorem NS:wp (lft (mulI (.int i) (.int j))) Y QD↔((-(2 ^ 64) < i/\i < 2 ^ 64)\/(-(2 ^ 64) < j/\j < 2 ^ 64))/\QD (.int (i*j)) Y:=by simp only [mulI,intF,decide_eq_true_eq,uO]
@[simp ↓] theorem NK:wp (lft (powI (.int i) (.int j))) Y QD↔(0<=j/\j<=1000000/\i.natAbs < 2 ^ 64)/\QD (.int (i ^ j.toNat)) Y:=by simp only [powI,intF,decide_eq_true_eq,uO]
@[simp] theorem MG {ds:List D}:ixF (.lst ds) (.int i)=atI ds i:=rfl
@[simp] theorem MT {ds:List D}:ixF (.tup ds) (.int i)=atI ds i:=rfl
theorem uh {α:Type}{ds:List α}{n:Nat}:atI ds (n:Int)=ds[n]?:=by
 unfold atI ixN
 rw [if_pos (by omega)]
 by_cases h:(n:Int) < ds.length
 ·rw [if_pos h];simp
 ·rw [if_neg h]
  have:ds.length<=n:=by omega
  simp [List.getElem?_eq_none this]
@[simp] theorem NJ {α:Type}{a:α}{ds:List α}:atI (a::ds) 0=some a:=by
 rw [show (0:Int)=((0:Nat):Int) from rfl,uh];rfl
@[simp] theorem MP {α:Type}{a b:α}{ds:List α}:atI (a::b::ds) 1=some b:=by
 rw [show (1:Int)=((1:Nat):Int) from rfl,uh];rfl
@[simp] theorem MR {α:Type}{a b c:α}{ds:List α}:atI (a::b::c::ds) 2=some c:=by
 rw [show (2:Int)=((2:Nat):Int) from rfl,uh];rfl
theorem z9 {α:Type}{ds:List α}{i:Int} (h0:0<=i) (h1:i < ds.length):∃ a,atI ds i=some a/\a∈ds:=by
 obtain ⟨n,rfl⟩:=Int.eq_ofNat_of_zero_le h0
 have h:n < ds.length:=by omega
 exact ⟨ds[n],by rw [uh,getElem?_eq_getElem h],getElem_mem h⟩
@[simp] theorem OA {a b d:D}{ds:List D}:stF 1 d (a::b::ds)=some (a::d::ds):=by
 unfold stF ixN
 rw [if_pos (by omega),if_pos (by simp;omega)]
 rfl
@[simp] theorem Op {a b c d:D}{ds:List D}:stF 2 d (a::b::c::ds)=some (a::b::d::ds):=by
 unfold stF ixN
 rw [if_pos (by omega),if_pos (by simp;omega)]
 rfl
@[simp] theorem OD {ds:List D}:lenF [.lst ds]=some (.int ds.length):=rfl
@[simp] theorem Nk {ds:List D}:lenF [.tup ds]=some (.int ds.length):=rfl
@[simp] theorem N7:minF [.int i,.int j]=some (.int (min i j)):=by
 unfold minF;dsimp only;congr 2;split<;>omega
@[simp] theorem N5:maxF [.int i,.int j]=some (.int (max i j)):=by
 unfold maxF;dsimp only;congr 2;split<;>omega
@[simp] theorem OH {ds:List D}:tupF [.lst ds]=some (.tup ds):=rfl
@[simp] theorem Np {ds:List D}:tupF [.tup ds]=some (.tup ds):=rfl
@[simp] theorem NM {ds:List D}:lstF [.lst ds]=some ds:=rfl
@[simp] theorem NP {ds:List D}:lstF [.tup ds]=some ds:=rfl
@[simp] theorem zP {ds:List D}:seqI (.lst ds)=some ds:=rfl
@[simp] theorem Nm {ds:List D}:seqI (.tup ds)=some ds:=rfl
@[simp] theorem Og {b:Bool}:reprF [.bl b]=some (.str (if b then "True" else "False")):=rfl
@[simp] theorem N1 {ds:List D}{lo hi:Option Int}:slF (.lst ds) lo hi=some (.lst (cutD ds lo hi)):=rfl
@[simp] theorem NC {xs ys:List D}:zipI [.lst xs,.lst ys]=some (pairsD xs ys):=rfl
@[simp] theorem Ng {xs ys:List D}:zipI [.tup xs,.tup ys]=some (pairsD xs ys):=rfl
@[simp] theorem M0 {xs:List D}:enumI [.lst xs]=some (numD 0 xs):=rfl
@[simp] theorem NQ {xs:List D}:enumI [.tup xs]=some (numD 0 xs):=rfl
@[simp ↓] theorem ND:wp (lft (rngI1 [.int j])) Y QL↔(-1000000<=j/\j<=1000000)/\QL (rngD 0 j.toNat) Y:=by simp only [rngI1,uO]
@[simp ↓] theorem OJ:wp (lft (rngI2 [.int i,.int j])) Y QL↔((-1000000<=i/\i<=1000000)/\-1000000<=j/\j<=1000000)/\QL (rngD i (j - i).toNat) Y:=by simp only [rngI2,uO]
@[simp ↓] theorem OC {neg:Bool}{a b:D}:wp (lft (eqF neg a b)) Y QD↔(dep a<=100\/dep b<=100)/\QD (.bl (if neg then !deq a b else deq a b)) Y:=by simp only [eqF,uO]
@[simp ↓] theorem Ox {xs ys:List D}:wp (lft (catF (.lst xs) (.lst ys))) Y QL↔xs.length+ys.length<=lim/\QL (xs++ys) Y:=by simp only [catF,uO]
@[simp ↓] theorem Oo {xs ys:List D}:wp (lft (addF (.tup xs) (.tup ys))) Y QD↔xs.length+ys.length<=lim/\QD (.tup (xs++ys)) Y:=by simp only [addF,uO]
@[simp] theorem Nj {Y:Gm}{k:Nat}{ds:List D} (h:Y[k]?=some (some (.own ds))):isMut Y k=true:=by unfold isMut;rw [h];rfl
@[simp] theorem MK {a:Int}:dep (.int a)=0:=by simp [dep]
@[simp] theorem Na {a:Str}:dep (.str a)=0:=by simp [dep]
@[simp] theorem NN:dep (.lst [])=1:=by simp [dep,depA]
@[simp] theorem Ov {a b:Str}:deq (.str a) (.str b)=(a == b):=by simp [deq]
@[simp] theorem Oj {a b:Int}:deq (.int a) (.int b)=(a == b):=by simp [deq]
@[simp] theorem Ot {ds:List D}:deq (.lst ds) (.lst [])=ds.isEmpty:=by cases ds<;>simp [deq,deqA]
@[simp] theorem Oc {a b:Bool}:deq (.str (if a then "True" else "False")) (.str (if b then "True" else "False"))=(a == b):=by cases a<;>cases b<;>decide
@[simp] theorem BU:lim=1000000:=rfl
theorem xp {n d k:Nat}:HT.sIx n d (some (k:Int))=min k n:=by
 show (if (k:Int) < 0 then ((k:Int)+(n:Int)).toNat else min (k:Int).toNat n)=min k n
 rw [if_neg (by omega),Int.toNat_natCast]
theorem B6 {ds:List D}{n:Nat}:cutD ds none (some (n:Int))=ds.take n:=by
 unfold cutD
 rw [xp,HT.xG]
 simp
theorem Cg {ds:List D}{n:Nat}:cutD ds (some (n:Int)) none=ds.drop n:=by
 unfold cutD
 rw [xp,HT.xG,List.take_of_length_le (by simp)]
 by_cases h:n<=ds.length
 ·rw [Nat.min_eq_left h]
 ·rw [Nat.min_eq_right (by omega),drop_of_length_le (le_refl _),drop_of_length_le (by omega)]
theorem zQ {ds:List D}{n:Nat} (h:n < ds.length):slF (.tup ds) none (some (n:Int))=some (.tup (ds.take n)):=by
 unfold slF
 dsimp only
 rw [xp,HT.xG,if_neg (by omega),B6]
theorem A7 {ds:List D}{n:Nat} (h:0 < ds.length) (h1:0 < n):slF (.tup ds) (some (n:Int)) none=some (.tup (ds.drop n)):=by
 unfold slF
 dsimp only
 rw [xp,HT.xG,if_neg (by omega),Cg]
@[simp] theorem MB {d:D}{ds:List D}{P:List D->Prop}:(∃ es,appF d ds=some es/\P es)↔ds.length < 1000000/\P (ds++[d]):=by
 unfold appF
 rw [BU]
 by_cases h:ds.length < 1000000<;>simp [h]
@[simp] theorem Ni {xs ds:List D}{P:List D->Prop}:(∃ es,extF (.lst xs) ds=some es/\P es)↔ds.length+xs.length<=1000000/\P (ds++xs):=by
 unfold extF
 rw [BU]
 by_cases h:ds.length+xs.length<=1000000<;>simp [h]
theorem sH {a b:M Fl}{QS:Fl->Gm->Prop} (h:∀ K:Fl->Gm->Prop,(∀ ab,wp b ab QS->K .nx ab)->(∀ r ab,QS (.rt r) ab->K (.rt r) ab)->wp a Y K):wp (seqS a b) Y QS:=by
 rw [Dd]
 exact h _ (λ_ h=>h) (λ_ _ h=>h)
theorem tL {a b:M Fl}{QS:Fl->Gm->Prop} (P:Gm->Prop) (h:∀ K:Fl->Gm->Prop,(∀ ab,P ab->K .nx ab)->(∀ r ab,QS (.rt r) ab->K (.rt r) ab)->wp a Y K) (h2:∀ ab,P ab->wp b ab QS):wp (seqS a b) Y QS:=by
 rw [Dd]
 exact h _ (λ_ p=>h2 _ p) (λ_ _ h=>h)
theorem ua {aB:D->M Unit}{body:M Fl}{ds:List D}{QS:Fl->Gm->Prop} (J:Nat->Gm->Prop) (h0:J 0 Y)
  (hs:∀ (i:Nat) (d:D) (Y:Gm),ds[i]?=some d->J i Y->∀ K:Fl->Gm->Prop,(∀ ah,J (i+1) ah->K .nx ah)->(∀ ah,J (i+1) ah->K .ct ah)->(∀ ah,QS .nx ah->K .bk ah)->(∀ r ah,QS (.rt r) ah->K (.rt r) ah)->wp (aB d) Y λ_ ab=>wp body ab K) (hd:∀ Y,J ds.length Y->QS .nx Y):wp (forM aB body ds) Y QS :=
 u4 J h0 (λi d Y h j=>hs i d Y h j _ (λ_ h=>h) (λ_ h=>h) (λ_ h=>h) (λ_ _ h=>h)) hd
theorem tZ {n ar:Nat}{body:M Fl}{rs:List R}{QR:R->List R->Prop} (hl:rs.length=ar) (h:∀ K:Fl->Gm->Prop,(∀ r af,(∃ l,fin rs af=some l/\QR r l)->K (.rt r) af)->(∀ af,(∃ l,fin rs af=some l/\QR (.val .non) l)->K .nx af)->wp body (rs.map some++replicate (n - rs.length) none) K):wpF (fnD n ar body) rs QR :=
 xT hl (h _ (λr _ h=>⟨r,rfl,h⟩) (λ_ h=>⟨_,rfl,h⟩))
theorem uT {n ar:Nat}{body:M Fl}{c ds:List D}{QR:R->List D->Prop} (hl:ds.length+1=ar) (h:∀ K:Fl->Gm->Prop,(∀ r c' af,(∃ t,fin (ds.map .val) af=some t)->QR r c'->K (.rt r) (some (.bor c')::af))->(∀ c' af,(∃ t,fin (ds.map .val) af=some t)->QR (.val .non) c'->K .nx (some (.bor c')::af))->wp body ((.bor c::ds.map .val).map some++replicate (n - (ds.length+1)) none) K):wpB (fnD n ar body) c ds QR:=by
 refine Ml (tZ (by simpa using hl) λK k1 k2=>?_)
 refine (by simpa using h K (λr c' af ⟨t,e⟩ q=>k1 r _ ⟨_,by simp [fin,e],c',t,rfl,q⟩) (λc' af ⟨t,e⟩ q=>k2 _ ⟨_,by simp [fin,e],c',t,rfl,q⟩))
theorem Ek {α:Type}{m:Nat}{aB:D->M Unit}{ts:M Bool}{el:M D}{it:M (List D)} (xs:List α) (f:α->D) (p:α->Bool) (v:α->D)
  (h:wp it Y λds ab=>ds=xs.map f/\xs.length<=1000000/\(∀ x∈xs,∀ cs:Gm,cs.length=m->wp (aB (f x)) (cs++ab) λ_ ah=>wp ts ah λb aR=>b=p x/\(if b=true then wp el aR λy aP=>y=v x/\∃ cz,cz.length=m/\aP=cz++ab else ∃ cz,cz.length=m/\aR=cz++ab)) ∧
   QL ((xs.filter p).map v) ab):wp (compO m it aB ts el) Y QL:=by
 unfold compO
 rw [tM]
 refine h.mono λds ab ⟨fK,hl,hp,hq⟩=>?_
 subst fK
 rw [if_pos (by simpa using hl)]
 have aQ:∀ (es:List α) (cs:Gm),(∀ d∈es,d∈xs)->cs.length=m->∃ cz,cz.length=m/\compM aB ts el (es.map f) (cs++ab)=some ((es.filter p).map v,cz++ab):=by
  intro es
  induction es with
  | nil=>intro cs _ hc;exact ⟨cs,hc,rfl⟩
  | cons d es ih =>
   intro cs hm hc
   obtain ⟨u,ah,e1,b,aR,e2,hb,h3⟩:=hp d (hm d mem_cons_self) cs hc
   have fO:∀ d∈es,d∈xs:=λd hd=>hm d (mem_cons_of_mem _ hd)
   cases b with
   | false =>
    rw [if_neg Bool.false_ne_true] at h3
    obtain ⟨cz,aK,rfl⟩:=h3
    obtain ⟨k8,cU,e3⟩:=ih cz fO aK
    refine ⟨k8,cU,?_⟩
    rw [map_cons,compM]
    unfold bnd
    simp only [e1,e2,false_eq_true,if_false]
    rw [e3,filter_cons,← hb]
    simp
   | true =>
    rw [if_pos rfl] at h3
    obtain ⟨x,aP,e4,rfl,cz,aK,rfl⟩:=h3
    obtain ⟨k8,cU,e3⟩:=ih cz fO aK
    refine ⟨k8,cU,?_⟩
    rw [map_cons,compM]
    unfold bnd
    simp only [e1,e2,if_true,e4]
    rw [e3,filter_cons,← hb]
    rfl
 obtain ⟨cz,aK,e⟩:=aQ xs (replicate m none) (λ_ h=>h) (by simp)
 refine ⟨_,_,?_,hq⟩
 unfold inC
 rw [e]
 simp [aK,List.drop_append]
theorem tU {α:Type}{aB:D->M Unit}{ts:M Bool}{el:M D}{it:M (List D)} (xs:List α) (f:α->D) (p:α->Bool) (v:α->D)
  (h:wp it Y λds ab=>ds=xs.map f/\xs.length<=1000000/\(∀ x∈xs,∀ a,wp (aB (f x)) (a::ab) λ_ ah=>wp ts ah λb aR=>b=p x/\(if b=true then wp el aR λy aP=>y=v x/\∃ a',aP=a'::ab else ∃ a',aR=a'::ab)) ∧
   QL ((xs.filter p).map v) ab):wp (compO 1 it aB ts el) Y QL:=by
 refine Ek xs f p v (h.mono λds ab ⟨h1,h2,h3,h4⟩=>⟨h1,h2,λx hx cs hc=>?_,h4⟩)
 obtain ⟨a,rfl⟩:=List.length_eq_one_iff.mp hc
 refine (h3 x hx a).mono λ_ ah h=>h.mono λb aR ⟨h5,h6⟩=>⟨h5,?_⟩
 cases b with
 | true=>simp only [if_true] at h6 ⊢;exact h6.mono λy aP ⟨h7,a',h8⟩=>⟨h7,[a'],rfl,h8⟩
 | false=>simp only [false_eq_true,if_false] at h6 ⊢;obtain ⟨a',h8⟩:=h6;exact ⟨[a'],rfl,h8⟩
theorem wk {α:Type}{aB:D->M Unit}{ts:M Bool}{el:M D}{it:M (List D)} (xs:List α) (f:α->D) (p:α->Bool) (v:α->D)
  (h:wp it Y λds ab=>ds=xs.map f/\xs.length<=1000000/\(∀ x∈xs,∀ a b,wp (aB (f x)) (a::b::ab) λ_ ah=>wp ts ah λb aR=>b=p x/\(if b=true then wp el aR λy aP=>y=v x/\∃ a' b',aP=a'::b'::ab else ∃ a' b',aR=a'::b'::ab)) ∧
   QL ((xs.filter p).map v) ab):wp (compO 2 it aB ts el) Y QL:=by
 refine Ek xs f p v (h.mono λds ab ⟨h1,h2,h3,h4⟩=>⟨h1,h2,λx hx cs hc=>?_,h4⟩)
 obtain ⟨a,b,rfl⟩:∃ a b,cs=[a,b]:=by
  match cs,hc with
  | [a,b],_=>exact ⟨a,b,rfl⟩
 refine (h3 x hx a b).mono λ_ ah h=>h.mono λb aR ⟨h5,h6⟩=>⟨h5,?_⟩
 cases b with
 | true=>simp only [if_true] at h6 ⊢;exact h6.mono λy aP ⟨h7,a',b',h8⟩=>⟨h7,[a',b'],rfl,h8⟩
 | false=>simp only [false_eq_true,if_false] at h6 ⊢;obtain ⟨a',b',h8⟩:=h6;exact ⟨[a',b'],rfl,h8⟩
theorem uq {n ar:Nat}{body:M Fl}{ds:List D}{d:D} (hl:ds.length=ar) (h:∀ K:Fl->Gm->Prop,(∀ af,(∃ l,fin (ds.map .val) af=some l)->K (.rt (.val d)) af)->(∀ af,d=.non->(∃ l,fin (ds.map .val) af=some l)->K .nx af)->wp body ((ds.map .val).map some++replicate (n - ds.length) none) K):cvF (fnD n ar body) ds=some d:=by
 refine uE (tZ (by simpa using hl) λK k1 k2=>?_)
 have:=h K (λaf ⟨l,e⟩=>k1 _ _ ⟨l,e,rfl⟩) (λaf hd ⟨l,e⟩=>k2 _ ⟨l,e,by rw [hd]⟩)
 simpa using this
theorem Bz {α:Type}{f:α->Bool}{xs:List α}:blsD (xs.map λx=>.bl (f x))=some (xs.map f):=by
 induction xs with
 | nil=>rfl
 | cons x xs ih=>simp only [map_cons,blsD,ih]
theorem yM {α:Type}{f:α->Bool}{xs:List α}:allF [.lst (xs.map λx=>.bl (f x))]=some (.bl (xs.all f)):=by
 unfold allF
 simp only [Bz]
 simp [comp_def]
theorem Ic {α:Type}{f:α->Bool}{xs:List α}:anyF [.lst (xs.map λx=>.bl (f x))]=some (.bl (xs.any f)):=by
 unfold anyF
 simp only [Bz]
 simp [comp_def]
theorem xO {α Z:Type}{f:α->D}{g:Z->D}{xs:List α}{ys:List Z}:pairsD (xs.map f) (ys.map g)=(xs.zip ys).map λq=>.tup [f q.1,g q.2]:=by
 unfold pairsD
 induction xs generalizing ys with
 | nil=>rfl
 | cons x xs ih =>
  cases ys with
  | nil=>rfl
  | cons y ys=>simp only [map_cons,zip_cons_cons,ih]
end
section
variable {α:Type}{Y:Gm}{Q:α->Gm->Prop}{QD:D->Gm->Prop}{QL:List D->Gm->Prop}{i j:Int}
@[simp ↓] theorem MY {neg:Bool}{i:Nat}{g:M D}:wp (inN neg i g) Y QD↔wp g Y λd ab=>wp (look i) ab λl ah=>wp (lft (inF neg d l)) ah QD:=by simp only [inN,tM]
@[simp] theorem Ny {ds:List D}:rvF (.lst ds) (.int (-1))=some ds.reverse:=by simp [rvF]
theorem F6 {xs:List D} (h:SetOk xs) (pY:(dd xs).length<=18) (k:xs.all fstI=true\/xs.all fstT=true):setF [.lst xs]=some (sortD (dd xs)):=by
 unfold setF
 exact if_pos ⟨⟨h.1,h.2.1,h.2.2.1,h.2.2.2.1,pY⟩,k⟩
theorem Fp {xs:List D} (h:SortOk xs):sortF [.lst xs]=some (sortD xs):=by
 unfold sortF
 exact if_pos h
theorem GO (ds:List D):∀ d∈ds,(dd ds).any (λe=>deq e d)=true:=by
 have aQ:∀ (ds ae:List D),(∀ d,ae.any (λe=>deq e d)=true->(ds.foldl dstep ae).any (λe=>deq e d)=true)/\∀ d∈ds,(ds.foldl dstep ae).any (λe=>deq e d)=true:=by
  intro ds
  induction ds with
  | nil=>exact λae=>⟨λd h=>h,λd h=>by cases h⟩
  | cons c ds ih =>
   intro ae
   obtain ⟨h1,h2⟩:=ih (dstep ae c)
   have st:∀ d,ae.any (λe=>deq e d)=true->(dstep ae c).any (λe=>deq e d)=true:=λd h=>by
    unfold dstep
    split
    ·exact h
    ·rw [List.any_append,h];rfl
   refine ⟨λd h=>h1 d (st d h),λd h=>?_⟩
   rcases mem_cons.mp h with rfl | h
   ·refine h1 d ?_
    unfold dstep
    split
    ·assumption
    ·rw [List.any_append]
     simp [wG]
   ·exact h2 d h
 exact (aQ ds []).2
theorem zI (ds:List D):(dd ds).length<=ds.length:=by
 have aQ:∀ (ds ae:List D),(ds.foldl dstep ae).length<=ae.length+ds.length:=by
  intro ds
  induction ds with
  | nil=>exact λae=>le_refl _
  | cons c ds ih =>
   intro ae
   have:=ih (dstep ae c)
   have:(dstep ae c).length<=ae.length+1:=by
    unfold dstep
    split
    ·omega
    ·simp
   rw [foldl_cons,length_cons]
   omega
 have:=aQ ds []
 simpa [dd] using this
end
end DL
namespace DL
theorem xq {α:Type}:∀ (l m:List α),l.Nodup->(∀ x∈l,x∈m)->l.length<=m.length
 | [],m,_,_=>zero_le _
 | x::l,m,nd,h=>by
  obtain ⟨a,b,rfl⟩:=List.append_of_mem (h x mem_cons_self)
  rw [nodup_cons] at nd
  have:=xq l (a++b) nd.2 (λy hy=>by
   have:=h y (mem_cons_of_mem _ hy)
   rcases mem_append.mp this with z | z
   ·exact (mem_append_left _ z)
   ·rcases mem_cons.mp z with z | z
    ·subst z;exact absurd hy nd.1
    ·exact (mem_append_right _ z))
  simp at this ⊢
  omega
theorem La {n ar:Nat}{body:M Fl}{ds:List D}{os:List D} (hl:ds.length=ar) (h:∀ K:Fl->Gm->Prop,(∀ af,(∃ l,fin (ds.map .val) af=some l)->K (.rt (.own os)) af)->wp body ((ds.map .val).map some++replicate (n - ds.length) none) K):coF (fnD n ar body) ds=some os:=by
 have w:wpF (fnD n ar body) (ds.map .val) λr _=>r=.own os:=tZ (by simpa using hl) λK k1 _=>by
  have:=h K (λaf ⟨l,e⟩=>k1 _ _ ⟨l,e,rfl⟩)
  simpa using this
 obtain ⟨r,aY,e,rfl⟩:=w
 unfold coF
 rw [e]
section
variable {Y:Gm}{QS:Fl->Gm->Prop}{QL:List D->Gm->Prop}
theorem Mu {c:M Bool}{b:M Fl} (J:Nat->Gm->Prop)
  (hs:∀ (m:Nat) (Y:Gm),J m Y->wp c Y λk ab=>if k=true then ∃ m',m=m'+1/\∀ K:Fl->Gm->Prop,(∀ ah,J m' ah->K .nx ah)->(∀ ah,J m' ah->K .ct ah)->(∀ ah,QS .nx ah->K .bk ah)->(∀ r ah,QS (.rt r) ah->K (.rt r) ah)->wp b ab K else QS .nx ab) :
  ∀ (n m:Nat) (Y:Gm),m < n->J m Y->wp (whlS n c b) Y QS:=by
 intro n
 induction n with
 | zero=>intro m Y h;omega
 | succ n ih =>
  intro m Y h j
  rw [whlS,tM]
  refine (hs m Y j).mono λk ab q=>?_
  cases k with
  | false=>rw [if_neg Bool.false_ne_true] at q ⊢;rw [vU];exact q
  | true =>
   rw [if_pos rfl] at q ⊢
   obtain ⟨m',rfl,q⟩:=q
   rw [tM]
   refine q _ (λah j2=>?_) (λah j2=>?_) (λah z=>?_) λr ah z=>?_
   ·exact ih m' ah (by omega) j2
   ·exact ih m' ah (by omega) j2
   ·exact (vU).mpr z
   ·exact (vU).mpr z
end
end DL
namespace Own
open PySem PySem.Spec PyProof.Rows L2 DL
noncomputable def yH:M Fl :=
 (forS (itS (nm 0)) (tgN 1)
  (ifS (tst (op2 (eqF true) (fn1 lenF (consA (nm 1) nilA)) (fn1 lenF (consA (op2 ixF (nm 0) (ret (.int 0))) nilA))))
  (λ_=>none) (ret .nx)))
noncomputable def ur:List R->Option (R×List R):=fnD 2 1 yH
noncomputable def yG:M Fl :=
 (seqS (dropS (fn1 (cvF ur) (consA (frz (lstA (consA (nm 0) (consA (nm 1) nilA)))) nilA)))
  (retS (fn1 allF (consA (frz (compO 2 (fn1 zipI (consA (nm 0) (consA (nm 1) nilA))) (tgTup 2 (tgCons (tgN 0) (tgCons (tgN 1) tgNil))) (ret true) (chn leI leI (op2 ixF (nm 0) (ret (.int 0))) (nm 1) (op2 ixF (nm 0) (ret (.int 1)))))) nilA))))
noncomputable def wT:List R->Option (R×List R):=fnD 2 2 yG
noncomputable def Ac:M Fl :=
 (seqS (dropS (fn1 (cvF ur) (consA (frz (lstA (consA (nm 0) (consA (nm 1) nilA)))) nilA)))
  (retS (fn1 allF (consA (frz (compO 2 (fn1 zipI (consA (nm 0) (consA (nm 1) nilA))) (tgTup 2 (tgCons (tgN 0) (tgCons (tgN 1) tgNil))) (ret true) (andV (op2 leI (op2 ixF (nm 0) (ret (.int 0))) (op2 ixF (nm 1) (ret (.int 0)))) (op2 leI (op2 ixF (nm 1) (ret (.int 1))) (op2 ixF (nm 0) (ret (.int 1))))))) nilA))))
def wx:List R->Option (R×List R):=fnD 2 2 Ac
noncomputable def zD:M Fl :=
 (seqS (dropS (fn1 (cvF ur) (consA (frz (lstA (consA (nm 0) (consA (nm 1) nilA)))) nilA)))
  (seqS (setO 2 (lstA nilA))
  (seqS (forS (fn1 zipI (consA (nm 0) (consA (nm 1) nilA))) (tgTup 2 (tgCons (tgN 3) (tgCons (tgN 4) tgNil)))
  (seqS (setV 5 (fn1 maxF (consA (op2 ixF (nm 3) (ret (.int 0))) (consA (op2 ixF (nm 4) (ret (.int 0))) nilA))))
  (seqS (setV 6 (fn1 minF (consA (op2 ixF (nm 3) (ret (.int 1))) (consA (op2 ixF (nm 4) (ret (.int 1))) nilA))))
  (seqS (ifS (tst (op2 gtI (nm 5) (nm 6)))
  (retS (ret .non)) (ret .nx))
  (appS 2 (tupA (consA (nm 5) (consA (nm 6) nilA))))))))
  (retS (fn1 tupF (consA (nm 2) nilA))))))
noncomputable def xF:List R->Option (R×List R):=fnD 7 2 zD
noncomputable def As:M Fl :=
 (retS (fn1 anyF (consA (frz (compO 1 (itS (nm 0)) (tgN 0) (ret true) (andV (op2 (eqF true) (nm 0) (nm 2)) (fn1 (cvF wx) (consA (nm 0) (consA (nm 2) nilA)))))) nilA)))
noncomputable def w4:List R->Option (R×List R):=fnD 2 2 As
noncomputable def yl:M Fl :=
 (seqS (dropS (fn1 (cvF ur) (consA (nm 0) nilA)))
  (seqS (setV 1 (frz (fn1 setF (consA (nm 0) nilA))))
  (retO (compO 1 (itS (nm 1)) (tgN 0) (notT (tst (fn1 (cvF w4) (consA (nm 2) (consA (nm 0) nilA))))) (nm 0)))))
def vL:List R->Option (R×List R):=fnD 2 1 yl
noncomputable def yL:M Fl :=
 (seqS (setO 2 (lstA nilA))
  (seqS (forS (fn1 enumI (consA (nm 1) nilA)) (tgTup 2 (tgCons (tgN 3) (tgCons (tgN 4) tgNil)))
  (forS (itS (nm 0)) (tgN 5)
  (seqS (ifS (tst (op2 ltI (op2 ixF (nm 4) (ret (.int 0))) (op2 ixF (op2 ixF (nm 5) (nm 3)) (ret (.int 0)))))
  (appS 2 (tupA (consA (nm 3) (consA (op2 subI (op2 ixF (op2 ixF (nm 5) (nm 3)) (ret (.int 0))) (ret (.int 1))) nilA)))) (ret .nx))
  (ifS (tst (op2 ltI (op2 ixF (op2 ixF (nm 5) (nm 3)) (ret (.int 1))) (op2 ixF (nm 4) (ret (.int 1)))))
  (appS 2 (tupA (consA (nm 3) (consA (op2 ixF (op2 ixF (nm 5) (nm 3)) (ret (.int 1))) nilA)))) (ret .nx)))))
  (retS (fn1 minlF (consA (nm 2) nilA)))))
noncomputable def xw:List R->Option (R×List R):=fnD 6 2 yL
noncomputable def zO:M Fl :=
 (seqS (setV 3 (sl3 slF (nm 0) (ret none) (prt (nm 1))))
  (seqS (setV 4 (sl3 slF (nm 0) (prt (op2 addF (nm 1) (ret (.int 1)))) (ret none)))
  (seqS (setV 5 (op2 ixF (op2 ixF (nm 0) (nm 1)) (ret (.int 0))))
  (seqS (setV 6 (op2 ixF (op2 ixF (nm 0) (nm 1)) (ret (.int 1))))
  (retS (tupA (consA (op2 addF (op2 addF (nm 3) (tupA (consA (tupA (consA (nm 5) (consA (nm 2) nilA))) nilA))) (nm 4)) (consA (op2 addF (op2 addF (nm 3) (tupA (consA (tupA (consA (op2 addF (nm 2) (ret (.int 1))) (consA (nm 6) nilA))) nilA))) (nm 4)) nilA))))))))
noncomputable def yc:List R->Option (R×List R):=fnD 7 3 zO
noncomputable def w8 (g:List R->Option (R×List R)):M Fl :=
 (seqS (setV 3 (frz (compO 1 (itS (nm 1)) (tgN 0) (tst (op2 (isNF true) (fn1 (cvF xF) (consA (op2 ixF (nm 1) (nm 0)) (consA (nm 3) nilA))) (ret .non))) (nm 0))))
  (seqS (ifS (tst (op2 (eqF false) (fn1 lenF (consA (nm 3) nilA)) (ret (.int 0))))
  (retS (tupA (consA (ret (.str "out")) (consA (fn1 tupF (consA (frz (compO 1 (itS (nm 2)) (tgN 0) (ret true) (op2 ixF (nm 0) (ret (.int 0))))) nilA)) nilA)))) (ret .nx))
  (seqS (forS (itS (nm 3)) (tgN 4)
  (ifS (tst (fn1 (cvF wx) (consA (op2 ixF (nm 0) (nm 4)) (consA (nm 2) nilA))))
  (retS (tupA (consA (ret (.str "in")) (consA (tupA (consA (ret (.str "by")) (consA (nm 4) nilA))) nilA)))) (ret .nx)))
  (seqS (setV 5 (fn1 (cvF xw) (consA (frz (compO 1 (itS (nm 3)) (tgN 0) (ret true) (op2 ixF (nm 1) (nm 0)))) (consA (nm 2) nilA))))
  (seqS (setV 6 (fn1 (cvF yc) (consA (nm 2) (consA (op2 ixF (nm 5) (ret (.int 0))) (consA (op2 ixF (nm 5) (ret (.int 1))) nilA)))))
  (seqS (setV 7 (fn1 (cvF g) (consA (nm 0) (consA (nm 3) (consA (op2 ixF (nm 6) (ret (.int 0))) nilA)))))
  (seqS (ifS (tst (op2 (eqF false) (op2 ixF (nm 7) (ret (.int 0))) (ret (.str "out"))))
  (retS (nm 7)) (ret .nx))
  (seqS (setV 8 (fn1 (cvF g) (consA (nm 0) (consA (nm 3) (consA (op2 ixF (nm 6) (ret (.int 1))) nilA)))))
  (seqS (ifS (tst (op2 (eqF false) (op2 ixF (nm 8) (ret (.int 0))) (ret (.str "out"))))
  (retS (nm 8)) (ret .nx))
  (retS (tupA (consA (ret (.str "in")) (consA (tupA (consA (ret (.str "cut")) (consA (op2 ixF (nm 5) (ret (.int 0))) (consA (op2 ixF (nm 5) (ret (.int 1))) (consA (op2 ixF (nm 7) (ret (.int 1))) (consA (op2 ixF (nm 8) (ret (.int 1))) nilA)))))) nilA)))))))))))))
noncomputable def u6:Nat->List R->Option (R×List R)
 | 0=>λ_=>none
 | k+1=>fnD 9 3 (w8 (u6 k))
noncomputable def yh:M Fl :=
 (seqS (dropS (fn1 (cvF ur) (consA (frz (op2 catF (frz (lstA (consA (nm 1) nilA))) (nm 0))) nilA)))
  (retS (fn1 (cvF (u6 40)) (consA (nm 0) (consA (frz (fn1 rngI1 (consA (fn1 lenF (consA (nm 0) nilA)) nilA))) (consA (nm 1) nilA))))))
def vy:List R->Option (R×List R):=fnD 2 2 yh
noncomputable def AF:M Fl :=
 (retO (compO 1 (itS (nm 0)) (tgN 0) (tst (fn1 (cvF wT) (consA (nm 0) (consA (nm 2) nilA)))) (nm 0)))
def uv:List R->Option (R×List R):=fnD 2 2 AF
noncomputable def AR:M Fl :=
 (seqS (setV 2 (frz (compO 1 (itS (nm 0)) (tgN 0) (ret true) (fn1 (cvF vy) (consA (nm 2) (consA (nm 0) nilA))))))
  (seqS (setV 3 (frz (compO 1 (itS (nm 2)) (tgN 0) (tst (op2 (eqF false) (op2 ixF (nm 0) (ret (.int 0))) (ret (.str "out")))) (op2 ixF (nm 0) (ret (.int 1))))))
  (retS (minLam 0 (fn1 lenF (consA (frz (fn1 (coF uv) (consA (nm 1) (consA (nm 0) nilA)))) nilA)) (nm 3)))))
noncomputable def vS:List R->Option (R×List R):=fnD 4 2 AR
noncomputable def wW (g:List R->Option (R×List R)):M Fl :=
 (seqS (setV 3 (fn1 (cvF vS) (consA (nm 0) (consA (nm 1) nilA))))
  (seqS (ifS (tst (op2 (isNF false) (nm 3) (ret .non)))
  (retS (tupA (consA (ret (.str "all")) (consA (frz (fn1 sortF (consA (nm 1) nilA))) nilA)))) (ret .nx))
  (seqS (ifS (tst (op2 (eqF false) (nm 2) (ret (.int 0))))
  (retS (tupA (consA (ret (.str "left")) (consA (nm 3) nilA)))) (ret .nx))
  (seqS (setO 4 (lstA nilA))
  (seqS (forS (itS (frz (fn1 (coF uv) (consA (nm 0) (consA (nm 3) nilA))))) (tgN 5)
  (seqS (setV 6 (fn1 (cvF g) (consA (nm 0) (consA (frz (op2 catF (nm 1) (frz (lstA (consA (nm 5) nilA))))) (consA (op2 subI (nm 2) (ret (.int 1))) nilA)))))
  (seqS (ifS (tst (op2 (eqF false) (op2 ixF (nm 6) (ret (.int 0))) (ret (.str "all"))))
  (retS (nm 6)) (ret .nx))
  (appS 4 (nm 6)))))
  (retS (tupA (consA (ret (.str "meet")) (consA (nm 3) (consA (nm 4) nilA))))))))))
noncomputable def uA:Nat->List R->Option (R×List R)
 | 0=>λ_=>none
 | k+1=>fnD 7 3 (wW (uA k))
noncomputable def AV:M Fl :=
 (seqS (setV 1 (frz (fn1 (coF vL) (consA (nm 0) nilA))))
  (seqS (setV 2 (ret (.int 0)))
  (seqS (setV 3 (ret .non))
  (seqS (setV 4 (fn1 (cvF (uA 10)) (consA (nm 1) (consA (frz (lstA nilA)) (consA (nm 2) nilA)))))
  (seqS (whlS 100 (tst (op2 (eqF true) (op2 ixF (nm 4) (ret (.int 0))) (ret (.str "all"))))
  (seqS (setV 3 (nm 4))
  (seqS (setV 2 (op2 addF (nm 2) (ret (.int 1))))
  (setV 4 (fn1 (cvF (uA 10)) (consA (nm 1) (consA (frz (lstA nilA)) (consA (nm 2) nilA))))))))
  (retS (tupA (consA (nm 2) (consA (op2 ixF (nm 4) (ret (.int 1))) (consA (nm 3) nilA))))))))))
noncomputable def wJ:List R->Option (R×List R):=fnD 5 1 AV
noncomputable def v6 (g:List R->Option (R×List R)):M Fl :=
 (seqS (setO 1 (lstA (consA (op2 ixF (nm 0) (ret (.int 1))) nilA)))
  (seqS (ifS (tst (op2 (eqF false) (op2 ixF (nm 0) (ret (.int 0))) (ret (.str "meet"))))
  (forS (itS (op2 ixF (nm 0) (ret (.int 2)))) (tgN 2)
  (extS 1 (fn1 (cvF g) (consA (nm 2) nilA)))) (ret .nx))
  (retS (nm 1))))
noncomputable def uV:Nat->List R->Option (R×List R)
 | 0=>λ_=>none
 | k+1=>fnD 3 1 (v6 (uV k))
noncomputable def wq (g:List R->Option (R×List R)):M Fl :=
 (seqS (setV 4 (op2 ixF (nm 3) (ret (.int 1))))
  (seqS (setV 5 (frz (fn1 (coF uv) (consA (nm 0) (consA (nm 4) nilA)))))
  (seqS (ifS (orT (tst (op2 (eqF false) (fn1 lenF (consA (nm 5) nilA)) (ret (.int 0)))) (tst (op2 gtI (fn1 lenF (consA (frz (fn1 (coF uv) (consA (nm 1) (consA (nm 4) nilA)))) nilA)) (ret (.int 0)))))
  (retS (ret (.bl false))) (ret .nx))
  (seqS (ifS (tst (op2 (eqF false) (op2 ixF (nm 3) (ret (.int 0))) (ret (.str "left"))))
  (retS (op2 (eqF false) (nm 2) (ret (.int 0)))) (ret .nx))
  (seqS (ifS (orT (tst (op2 (eqF false) (nm 2) (ret (.int 0)))) (tst (op2 (eqF true) (fn1 lenF (consA (op2 ixF (nm 3) (ret (.int 2))) nilA)) (fn1 lenF (consA (nm 5) nilA)))))
  (retS (ret (.bl false))) (ret .nx))
  (retS (fn1 allF (consA (frz (compO 2 (fn1 zipI (consA (nm 5) (consA (op2 ixF (nm 3) (ret (.int 2))) nilA))) (tgTup 2 (tgCons (tgN 0) (tgCons (tgN 1) tgNil))) (ret true) (fn1 (cvF g) (consA (nm 2) (consA (frz (op2 catF (nm 3) (frz (lstA (consA (nm 0) nilA))))) (consA (op2 subI (nm 4) (ret (.int 1))) (consA (nm 1) nilA))))))) nilA))))))))
noncomputable def t9:Nat->List R->Option (R×List R)
 | 0=>λ_=>none
 | k+1=>fnD 6 4 (wq (t9 k))
noncomputable def yC:M Fl :=
 (seqS (setV 2 (op2 ixF (nm 1) (ret (.int 0))))
  (seqS (setV 3 (op2 ixF (nm 1) (ret (.int 1))))
  (seqS (dropS (fn1 (cvF ur) (consA (frz (op2 catF (frz (op2 catF (nm 0) (nm 3))) (fn1 (cvF (uV 20)) (consA (op2 ixF (nm 1) (ret (.int 2))) nilA)))) nilA)))
  (seqS (setV 4 (frz (fn1 (coF vL) (consA (nm 0) nilA))))
  (seqS (ifS (orT (tst (op2 (eqF true) (fn1 lenF (consA (nm 3) nilA)) (nm 2))) (tst (op2 (eqF true) (nm 3) (frz (compO 1 (itS (nm 4)) (tgN 0) (tst (op2 (inF false) (nm 0) (nm 4))) (nm 0))))))
  (retS (ret (.bl false))) (ret .nx))
  (retS (andV (op2 (isNF false) (fn1 (cvF vS) (consA (nm 4) (consA (nm 3) nilA))) (ret .non)) (fn1 (cvF (t9 20)) (consA (nm 4) (consA (frz (lstA nilA)) (consA (op2 subI (nm 2) (ret (.int 1))) (consA (op2 ixF (nm 1) (ret (.int 2))) nilA))))))))))))
noncomputable def ve:List R->Option (R×List R):=fnD 5 2 yC
noncomputable def Au:M Fl :=
 (seqS (ifS (tst (op2 geI (nm 0) (op2 powI (ret (.int 10)) (ret (.int 18)))))
  (retS (nm 0)) (ret .nx))
  (seqS (setV 2 (op2 modI (op2 addF (op2 addF (op2 mulI (op2 modI (nm 0) (ret (.int 998244353))) (ret (.int 40692))) (op2 mulI (nm 1) (ret (.int 69621)))) (ret (.int 1009))) (ret (.int 2147483399))))
  (seqS (setV 3 (op2 modI (op2 addF (op2 addF (op2 mulI (nm 2) (nm 2)) (op2 mulI (nm 1) (ret (.int 48271)))) (op2 modI (nm 0) (ret (.int 131071)))) (ret (.int 2147483647))))
  (seqS (setV 4 (op2 modI (op2 addF (op2 addF (op2 mulI (nm 3) (nm 3)) (op2 mulI (nm 2) (ret (.int 17)))) (ret (.int 3))) (ret (.int 2147483629))))
  (retS (op2 addF (op2 mulI (op2 addF (op2 mulI (nm 2) (ret (.int 2147483647))) (nm 3)) (ret (.int 2147483629))) (nm 4)))))))
noncomputable def wE:List R->Option (R×List R):=fnD 5 2 Au
noncomputable def zC:M Fl :=
 (seqS (setO 1 (fn1 lstF (consA (sl3 slF (nm 0) (ret none) (prt (ret (.int 12)))) nilA)))
  (seqS (forS (fn1 enumI (consA (sl3 slF (nm 0) (prt (ret (.int 12))) (prt (ret (.int 63)))) nilA)) (tgTup 2 (tgCons (tgN 2) (tgCons (tgN 3) tgNil)))
  (stS 1 (op2 modI (nm 2) (ret (.int 12))) (op2 addF (atN 1 (op2 modI (nm 2) (ret (.int 12)))) (nm 3))))
  (retO (lstA (consA (nm 1) (consA (ret (.int 0)) (consA (ret (.int 0)) nilA)))))))
def wB:List R->Option (R×List R):=fnD 4 1 zC
noncomputable def An:M Fl :=
 (seqS (ifS (tst (op2 ltI (atN 0 (ret (.int 2))) (nm 1)))
  (seqS (setV 2 (atN 0 (ret (.int 1))))
  (seqS (setV 3 (op2 mulI (ret (.int 11)) (nm 2)))
  (seqS (ifS (tst (op2 ltI (nm 2) (fn1 lenF (consA (atN 0 (ret (.int 0))) nilA))))
  (setV 3 (op2 ixF (atN 0 (ret (.int 0))) (nm 2))) (ifS (tst (op2 (eqF true) (atN 0 (ret (.int 0))) (frz (lstA nilA))))
  (setV 3 (op2 modI (op2 ixF (atN 0 (ret (.int 0))) (op2 modI (op2 addF (op2 mulI (nm 2) (ret (.int 7))) (ret (.int 1))) (fn1 lenF (consA (atN 0 (ret (.int 0))) nilA)))) (op2 addF (op2 powI (ret (.int 10)) (ret (.int 17))) (op2 mulI (ret (.int 3)) (nm 2))))) (ret .nx)))
  (seqS (stS 0 (ret (.int 1)) (op2 addF (nm 2) (ret (.int 1))))
  (stS 0 (ret (.int 2)) (fn1 (cvF wE) (consA (nm 3) (consA (nm 2) nilA)))))))) (ret .nx))
  (seqS (setV 4 (op2 modI (atN 0 (ret (.int 2))) (nm 1)))
  (seqS (stS 0 (ret (.int 2)) (op2 divI (atN 0 (ret (.int 2))) (nm 1)))
  (retS (nm 4)))))
noncomputable def tF:List R->Option (R×List R):=fnD 5 2 An
noncomputable def zc:M Fl :=
 (seqS (setO 4 (lstA nilA))
  (seqS (forS (fn1 rngI1 (consA (nm 1) nilA)) (tgN 5)
  (seqS (setV 6 (op2 addF (nm 2) (cbV 0 tF (consA (nm 3) nilA))))
  (seqS (setV 7 (op2 addF (nm 2) (cbV 0 tF (consA (nm 3) nilA))))
  (appS 4 (tupA (consA (fn1 minF (consA (nm 6) (consA (nm 7) nilA))) (consA (fn1 maxF (consA (nm 6) (consA (nm 7) nilA))) nilA)))))))
  (retS (fn1 tupF (consA (nm 4) nilA)))))
noncomputable def vA:List R->Option (R×List R):=fnD 8 4 zc
noncomputable def z6:M Fl :=
 (seqS (setV 2 (cbV 0 tF (consA (fn1 lenF (consA (nm 1) nilA)) nilA)))
  (seqS (asgS (op2 ixF (nm 1) (nm 2)) (tgTup 2 (tgCons (tgN 3) (tgCons (tgN 4) tgNil))))
  (seqS (setV 5 (frz (lstA (consA (tupA (consA (fn1 maxF (consA (ret (.int 0)) (consA (op2 subI (nm 3) (ret (.int 1))) nilA))) (consA (nm 4) nilA))) (consA (tupA (consA (nm 3) (consA (fn1 minF (consA (ret (.int 9)) (consA (op2 addF (nm 4) (ret (.int 1))) nilA))) nilA))) (consA (tupA (consA (fn1 minF (consA (op2 addF (nm 3) (ret (.int 1))) (consA (nm 4) nilA))) (consA (nm 4) nilA))) (consA (tupA (consA (nm 3) (consA (fn1 maxF (consA (nm 3) (consA (op2 subI (nm 4) (ret (.int 1))) nilA))) nilA))) nilA)))))))
  (retS (op2 addF (op2 addF (sl3 slF (nm 1) (ret none) (prt (nm 2))) (tupA (consA (op2 ixF (nm 5) (cbV 0 tF (consA (ret (.int 4)) nilA))) nilA))) (sl3 slF (nm 1) (prt (op2 addF (nm 2) (ret (.int 1)))) (ret none)))))))
noncomputable def xn:List R->Option (R×List R):=fnD 6 2 z6
noncomputable def zu:M Fl :=
 (seqS (setV 3 (fn1 minF (consA (op2 ixF (frz (lstA (consA (ret (.int 2)) (consA (ret (.int 3)) (consA (ret (.int 4)) (consA (ret (.int 10)) nilA)))))) (cbV 0 tF (consA (ret (.int 4)) nilA))) (consA (op2 ixF (frz (lstA (consA (ret (.int 10)) (consA (ret (.int 10)) (consA (ret (.int 10)) (consA (ret (.int 4)) nilA)))))) (nm 1)) nilA))))
  (seqS (setV 4 (cbV 0 tF (consA (op2 subI (ret (.int 11)) (nm 3)) nilA)))
  (seqS (setO 5 (lstA nilA))
  (seqS (forS (fn1 rngI1 (consA (cbV 0 tF (consA (op2 addF (nm 2) (ret (.int 1))) nilA)) nilA)) (tgN 6)
  (seqS (setV 7 (cbV 0 tF (consA (ret (.int 6)) nilA)))
  (seqS (setV 8 (cbV 0 vA (consA (nm 1) (consA (nm 4) (consA (nm 3) nilA)))))
  (seqS (ifS (andT (tst (op2 (eqF false) (nm 7) (ret (.int 0)))) (tst (cmpN true 5 (frz (lstA nilA)))))
  (setV 8 (atN 5 (cbV 0 tF (consA (lenN 5) nilA)))) (ret .nx))
  (seqS (ifS (andT (tst (op2 (eqF false) (nm 7) (ret (.int 1)))) (tst (cmpN true 5 (frz (lstA nilA)))))
  (setV 8 (cbV 0 xn (consA (atN 5 (cbV 0 tF (consA (lenN 5) nilA))) nilA))) (ret .nx))
  (appS 5 (nm 8)))))))
  (retS (nm 5))))))
noncomputable def xJ:List R->Option (R×List R):=fnD 9 3 zu
noncomputable def ze:M Fl :=
 (retS (op2 (eqF false) (frz (compO 2 (fn1 zipI (consA (nm 1) (consA (nm 0) nilA))) (tgTup 2 (tgCons (tgN 0) (tgCons (tgN 1) tgNil))) (orT (tst (op2 ltI (nm 0) (op2 ixF (nm 1) (ret (.int 0))))) (tst (op2 gtI (nm 0) (op2 ixF (nm 1) (ret (.int 1)))))) (ret (.int 1)))) (frz (lstA nilA))))
def uB:List R->Option (R×List R):=fnD 2 2 ze
noncomputable def zl:M Fl :=
 (seqS (setV 1 (frz (lstA (consA (tupA nilA) nilA))))
  (seqS (forS (itS (nm 0)) (tgTup 2 (tgCons (tgN 2) (tgCons (tgN 3) tgNil)))
  (seqS (setO 4 (lstA nilA))
  (seqS (forS (itS (nm 1)) (tgN 5)
  (extS 4 (frz (compO 1 (fn1 rngI2 (consA (nm 2) (consA (op2 addF (nm 3) (ret (.int 1))) nilA))) (tgN 0) (ret true) (op2 addF (nm 6) (tupA (consA (nm 0) nilA)))))))
  (setV 1 (nm 4)))))
  (retS (nm 1))))
noncomputable def xR:List R->Option (R×List R):=fnD 6 1 zl
noncomputable def Ag:M Fl :=
 (seqS (setV 2 (fn1 tupF (consA (frz (compO 1 (itS (nm 1)) (tgN 0) (ret true) (op2 ixF (nm 0) (ret (.int 0))))) nilA)))
  (seqS (setV 3 (fn1 tupF (consA (frz (compO 1 (itS (nm 1)) (tgN 0) (ret true) (op2 ixF (nm 0) (ret (.int 1))))) nilA)))
  (retS (andV (fn1 (cvF uB) (consA (nm 0) (consA (nm 2) nilA))) (fn1 (cvF uB) (consA (nm 0) (consA (nm 3) nilA)))))))
noncomputable def xZ:List R->Option (R×List R):=fnD 4 2 Ag
noncomputable def za:M Fl :=
 (seqS (setO 1 (lstA nilA))
  (seqS (forS (itS (frz (fn1 sortF (consA (nm 0) nilA)))) (tgN 2)
  (seqS (setV 3 (frz (compO 1 (itS (nm 0)) (tgN 0) (andT (tst (op2 (eqF true) (nm 0) (nm 3))) (tst (fn1 (cvF xZ) (consA (nm 0) (consA (nm 3) nilA))))) (nm 0))))
  (ifS (andT (tst (op2 (eqF false) (nm 3) (frz (lstA nilA)))) (tst (inN true 1 (nm 2))))
  (appS 1 (nm 2)) (ret .nx))))
  (retS (nm 1))))
noncomputable def wI:List R->Option (R×List R):=fnD 4 1 za
noncomputable def zf:M Fl :=
 (seqS (ifS (tst (op2 (eqF false) (frz (compO 1 (itS (nm 0)) (tgN 0) (tst (fn1 (cvF uB) (consA (nm 0) (consA (nm 3) nilA)))) (ret (.int 1)))) (frz (lstA nilA))))
  (retS (ret (.bl false))) (ret .nx))
  (retS (op2 (eqF false) (frz (compO 1 (itS (nm 1)) (tgN 0) (tst (fn1 (cvF uB) (consA (nm 0) (consA (nm 3) nilA)))) (ret (.int 1)))) (frz (lstA nilA)))))
noncomputable def xL:List R->Option (R×List R):=fnD 3 3 zf
noncomputable def wb (g:List R->Option (R×List R)):M Fl :=
 (seqS (ifS (notT (tst (fn1 (cvF xL) (consA (nm 0) (consA (nm 1) (consA (op2 ixF (nm 3) (ret (.int 1))) nilA))))))
  (retS (ret (.bl false))) (ret .nx))
  (seqS (ifS (tst (op2 (eqF false) (op2 ixF (nm 3) (ret (.int 0))) (ret (.str "left"))))
  (retS (op2 (eqF false) (nm 2) (ret (.int 0)))) (ret .nx))
  (seqS (setV 4 (frz (compO 1 (itS (nm 0)) (tgN 0) (tst (fn1 (cvF uB) (consA (nm 0) (consA (op2 ixF (nm 4) (ret (.int 1))) nilA)))) (nm 0))))
  (seqS (ifS (orT (tst (op2 ltI (nm 2) (ret (.int 1)))) (tst (op2 (eqF true) (fn1 lenF (consA (op2 ixF (nm 3) (ret (.int 2))) nilA)) (fn1 lenF (consA (nm 4) nilA)))))
  (retS (ret (.bl false))) (ret .nx))
  (seqS (forS (fn1 zipI (consA (nm 4) (consA (op2 ixF (nm 3) (ret (.int 2))) nilA))) (tgTup 2 (tgCons (tgN 5) (tgCons (tgN 6) tgNil)))
  (ifS (notT (tst (fn1 (cvF g) (consA (nm 0) (consA (frz (op2 catF (nm 1) (frz (lstA (consA (nm 5) nilA))))) (consA (op2 subI (nm 2) (ret (.int 1))) (consA (nm 6) nilA)))))))
  (retS (ret (.bl false))) (ret .nx)))
  (retS (ret (.bl true))))))))
noncomputable def ue:Nat->List R->Option (R×List R)
 | 0=>λ_=>none
 | k+1=>fnD 7 4 (wb (ue k))
noncomputable def zv:M Fl :=
 (seqS (asgS (nm 1) (tgTup 3 (tgCons (tgN 2) (tgCons (tgN 3) (tgCons (tgN 4) tgNil)))))
  (seqS (setV 5 (fn1 (cvF wI) (consA (nm 0) nilA)))
  (seqS (ifS (orT (tst (op2 (eqF true) (nm 2) (fn1 lenF (consA (nm 3) nilA)))) (orT (tst (op2 (eqF true) (nm 3) (frz (fn1 setF (consA (nm 3) nilA))))) (tst (op2 (eqF true) (frz (compO 1 (itS (nm 3)) (tgN 0) (tst (op2 (inF true) (nm 0) (nm 6))) (ret (.int 1)))) (frz (lstA nilA))))))
  (retS (ret (.bl false))) (ret .nx))
  (seqS (forS (itS (nm 5)) (tgN 6)
  (forS (itS (fn1 (cvF xR) (consA (nm 6) nilA))) (tgN 7)
  (ifS (tst (op2 (eqF false) (frz (compO 1 (itS (nm 3)) (tgN 0) (tst (fn1 (cvF uB) (consA (nm 0) (consA (nm 8) nilA)))) (ret (.int 1)))) (frz (lstA nilA))))
  (retS (ret (.bl false))) (ret .nx))))
  (retS (fn1 (cvF (ue 20)) (consA (nm 5) (consA (frz (lstA nilA)) (consA (op2 subI (nm 2) (ret (.int 1))) (consA (nm 4) nilA))))))))))
def v3:List R->Option (R×List R):=fnD 8 2 zv
noncomputable def y8:M Fl :=
 (seqS (setV 2 (op2 ixF (nm 1) (cbV 0 tF (consA (fn1 lenF (consA (nm 1) nilA)) nilA))))
  (seqS (setV 3 (cbV 0 tF (consA (ret (.int 2)) nilA)))
  (retS (fn1 tupF (consA (frz (compO 1 (itS (nm 2)) (tgN 0) (ret true) (op2 ixF (frz (lstA (consA (op2 addF (op2 ixF (nm 0) (ret (.int 0))) (cbV 1 tF (consA (op2 addF (op2 subI (op2 ixF (nm 0) (ret (.int 1))) (op2 ixF (nm 0) (ret (.int 0)))) (ret (.int 1))) nilA))) (consA (cbV 1 tF (consA (ret (.int 10)) nilA)) nilA)))) (nm 4)))) nilA)))))
noncomputable def wl:List R->Option (R×List R):=fnD 4 2 y8
noncomputable def v9 (g:List R->Option (R×List R)):M Fl :=
 (seqS (setV 3 (cbV 0 tF (consA (ret (.int 9)) nilA)))
  (seqS (setV 4 (cbV 0 wl (consA (nm 1) nilA)))
  (seqS (ifS (tst (op2 (eqF false) (op2 ixF (nm 2) (ret (.int 0))) (ret (.str "left"))))
  (retS (op2 ixF (frz (lstA (consA (tupA (consA (ret (.str "left")) (consA (nm 4) nilA))) (consA (tupA (consA (ret (.str "meet")) (consA (op2 ixF (nm 2) (ret (.int 1))) (consA (frz (lstA nilA)) nilA)))) (consA (tupA (consA (ret (.str "meet")) (consA (nm 4) (consA (frz (lstA (consA (nm 2) nilA))) nilA)))) (consA (tupA (consA (ret (.str "left")) (consA (nm 4) nilA))) nilA)))))) (op2 modI (nm 3) (ret (.int 4))))) (ret .nx))
  (seqS (setV 5 (op2 ixF (nm 2) (ret (.int 2))))
  (seqS (ifS (tst (op2 (eqF false) (nm 5) (frz (lstA nilA))))
  (retS (tupA (consA (ret (.str "left")) (consA (nm 4) nilA)))) (ret .nx))
  (seqS (setV 6 (cbV 0 tF (consA (fn1 lenF (consA (nm 5) nilA)) nilA)))
  (seqS (ifS (tst (op2 ltI (nm 3) (ret (.int 4))))
  (retS (tupA (consA (ret (.str "meet")) (consA (op2 ixF (nm 2) (ret (.int 1))) (consA (frz (op2 catF (frz (op2 catF (sl3 slF (nm 5) (ret none) (prt (nm 6))) (frz (lstA (consA (cbV 0 g (consA (nm 1) (consA (op2 ixF (nm 5) (nm 6)) nilA))) nilA))))) (sl3 slF (nm 5) (prt (op2 addF (nm 6) (ret (.int 1)))) (ret none)))) nilA))))) (ret .nx))
  (seqS (setV 7 (frz (lstA (consA (frz (op2 catF (sl3 slF (nm 5) (ret none) (prt (nm 6))) (sl3 slF (nm 5) (prt (op2 addF (nm 6) (ret (.int 1)))) (ret none)))) (consA (frz (op2 catF (nm 5) (sl3 slF (nm 5) (prt (nm 6)) (prt (op2 addF (nm 6) (ret (.int 1))))))) (consA (frz (op2 rvF (nm 5) (un1 negI (ret (.int 1))))) nilA))))))
  (seqS (ifS (tst (op2 ltI (nm 3) (ret (.int 7))))
  (retS (tupA (consA (ret (.str "meet")) (consA (op2 ixF (nm 2) (ret (.int 1))) (consA (op2 ixF (nm 7) (op2 subI (nm 3) (ret (.int 4)))) nilA))))) (ret .nx))
  (retS (op2 ixF (frz (lstA (consA (tupA (consA (ret (.str "meet")) (consA (nm 4) (consA (nm 5) nilA)))) (consA (tupA (consA (ret (.str "left")) (consA (op2 ixF (nm 2) (ret (.int 1))) nilA))) nilA)))) (op2 subI (nm 3) (ret (.int 7))))))))))))))
noncomputable def u3:Nat->List R->Option (R×List R)
 | 0=>λ_=>none
 | k+1=>fnD 8 3 (v9 (u3 k))
noncomputable def zV:M Fl :=
 (seqS (asgS (nm 2) (tgTup 3 (tgCons (tgN 3) (tgCons (tgN 4) (tgCons (tgN 5) tgNil)))))
  (seqS (setV 6 (cbV 0 tF (consA (ret (.int 8)) nilA)))
  (seqS (setV 7 (cbV 0 tF (consA (op2 addF (fn1 lenF (consA (nm 4) nilA)) (ret (.int 1))) nilA)))
  (seqS (setV 8 (op2 ixF (nm 1) (cbV 0 tF (consA (fn1 lenF (consA (nm 1) nilA)) nilA))))
  (seqS (setV 9 (frz (compO 2 (fn1 zipI (consA (nm 8) (consA (op2 ixF (nm 1) (ret (.int 0))) nilA))) (tgTup 2 (tgCons (tgN 0) (tgCons (tgN 1) tgNil))) (ret true) (tupA (consA (fn1 minF (consA (op2 ixF (nm 0) (ret (.int 0))) (consA (op2 ixF (nm 1) (ret (.int 0))) nilA))) (consA (fn1 maxF (consA (op2 ixF (nm 0) (ret (.int 1))) (consA (op2 ixF (nm 1) (ret (.int 1))) nilA))) nilA))))))
  (seqS (setV 10 (fn1 lenF (consA (nm 8) nilA)))
  (seqS (setV 8 (op2 ixF (frz (lstA (consA (nm 8) (consA (nm 8) (consA (fn1 tupF (consA (nm 9) nilA)) (consA (cbV 0 vA (consA (nm 10) (consA (ret (.int 0)) (consA (ret (.int 10)) nilA)))) nilA)))))) (cbV 0 tF (consA (ret (.int 4)) nilA))))
  (seqS (ifS (tst (op2 (eqF false) (nm 6) (ret (.int 0))))
  (retS (tupA (consA (op2 addF (nm 3) (op2 ixF (frz (lstA (consA (ret (.int 1)) (consA (un1 negI (ret (.int 1))) (consA (ret (.int 1000)) (consA (op2 powI (ret (.int 10)) (ret (.int 30))) (consA (op2 subI (ret (.int 0)) (op2 powI (ret (.int 10)) (ret (.int 30)))) nilA))))))) (cbV 0 tF (consA (ret (.int 5)) nilA)))) (consA (nm 4) (consA (nm 5) nilA))))) (ret .nx))
  (seqS (ifS (tst (op2 (eqF false) (nm 6) (ret (.int 1))))
  (retS (tupA (consA (nm 3) (consA (frz (op2 catF (frz (op2 catF (sl3 slF (nm 4) (ret none) (prt (nm 7))) (frz (lstA (consA (nm 8) nilA))))) (sl3 slF (nm 4) (prt (nm 7)) (ret none)))) (consA (nm 5) nilA))))) (ret .nx))
  (seqS (ifS (tst (op2 (eqF false) (nm 6) (ret (.int 2))))
  (retS (tupA (consA (op2 subI (nm 3) (ret (.int 1))) (consA (frz (op2 catF (sl3 slF (nm 4) (ret none) (prt (nm 7))) (sl3 slF (nm 4) (prt (op2 addF (nm 7) (ret (.int 1)))) (ret none)))) (consA (nm 5) nilA))))) (ret .nx))
  (seqS (ifS (tst (op2 (eqF false) (nm 6) (ret (.int 3))))
  (retS (tupA (consA (nm 3) (consA (frz (op2 catF (frz (op2 catF (sl3 slF (nm 4) (ret none) (prt (nm 7))) (frz (lstA (consA (nm 8) nilA))))) (sl3 slF (nm 4) (prt (op2 addF (nm 7) (ret (.int 1)))) (ret none)))) (consA (nm 5) nilA))))) (ret .nx))
  (seqS (ifS (tst (op2 (eqF false) (nm 6) (ret (.int 4))))
  (retS (tupA (consA (op2 addF (nm 3) (ret (.int 1))) (consA (frz (fn1 sortF (consA (frz (op2 catF (nm 4) (frz (lstA (consA (nm 8) nilA))))) nilA))) (consA (nm 5) nilA))))) (ret .nx))
  (seqS (ifS (tst (op2 (eqF false) (nm 6) (ret (.int 5))))
  (retS (tupA (consA (nm 3) (consA (frz (op2 rvF (nm 4) (un1 negI (ret (.int 1))))) (consA (nm 5) nilA))))) (ret .nx))
  (retS (tupA (consA (nm 3) (consA (nm 4) (consA (cbV 0 (u3 20) (consA (nm 1) (consA (nm 5) nilA))) nilA))))))))))))))))))
noncomputable def xV:List R->Option (R×List R):=fnD 11 3 zV
noncomputable def yO:M Fl :=
 (seqS (setO 1 (fn1 (coF wB) (consA (nm 0) nilA)))
  (seqS (forS (fn1 rngI1 (consA (ret (.int 2)) nilA)) (tgN 2)
  (seqS (setV 3 (op2 addF (ret (.int 1)) (cbV 1 tF (consA (ret (.int 3)) nilA))))
  (seqS (setV 4 (frz (op2 catF (cbV 1 xJ (consA (nm 3) (consA (ret (.int 5)) nilA))) (frz (lstA (consA (cbV 1 vA (consA (nm 3) (consA (cbV 1 tF (consA (ret (.int 5)) nilA)) (consA (op2 ixF (frz (lstA (consA (ret (.int 6)) (consA (ret (.int 6)) (consA (ret (.int 6)) (consA (ret (.int 4)) nilA)))))) (nm 3)) nilA)))) nilA))))))
  (seqS (setO 5 (lstA (consA (fn1 (cvF wJ) (consA (frz (fn1 lstF (consA (nm 4) nilA))) nilA)) nilA)))
  (seqS (setO 6 (lstA nilA))
  (seqS (forS (fn1 rngI1 (consA (nm 3) nilA)) (tgN 7)
  (appS 6 (tupA (consA (fn1 minNF (consA (frz (compO 1 (itS (nm 4)) (tgN 0) (ret true) (op2 ixF (op2 ixF (nm 0) (nm 8)) (ret (.int 0))))) nilA)) (consA (fn1 maxNF (consA (frz (compO 1 (itS (nm 4)) (tgN 0) (ret true) (op2 ixF (op2 ixF (nm 0) (nm 8)) (ret (.int 1))))) nilA)) nilA)))))
  (seqS (setV 8 (cbV 1 wl (consA (nm 4) nilA)))
  (seqS (setV 9 (frz (lstA (consA (tupA (consA (ret (.int 1)) (consA (frz (lstA (consA (fn1 tupF (consA (nm 6) nilA)) nilA))) (consA (tupA (consA (ret (.str "left")) (consA (nm 8) nilA))) nilA)))) (consA (op2 addF (sl3 slF (atN 5 (ret (.int 0))) (ret none) (prt (ret (.int 2)))) (tupA (consA (tupA (consA (ret (.str "meet")) (consA (nm 8) (consA (frz (lstA nilA)) nilA)))) nilA))) nilA)))))
  (seqS (forS (fn1 rngI1 (consA (ret (.int 8)) nilA)) (tgN 7)
  (appS 5 (cbV 1 xV (consA (nm 4) (consA (atN 5 (op2 mulI (cbV 1 tF (consA (fn1 minF (consA (ret (.int 2)) (consA (lenN 5) nilA))) nilA)) (fn1 intBF (consA (op2 ltI (fn1 lenF (consA (nm 4) nilA)) (ret (.int 6))) nilA)))) nilA)))))
  (forS (itS (frz (op2 catF (nm 5) (nm 9)))) (tgN 10)
  (seqS (setV 11 (fn1 reprG (consA (nm 10) nilA)))
  (seqS (setV 12 (fn1 (cvF v3) (consA (nm 4) (consA (nm 10) nilA))))
  (seqS (setV 13 (frz (fn1 lstF (consA (nm 4) nilA))))
  (seqS (setV 14 (fn1 (cvF ve) (consA (nm 13) (consA (nm 10) nilA))))
  (ifS (orT (tst (op2 (eqF true) (fn1 reprG (consA (nm 14) nilA)) (fn1 reprG (consA (nm 12) nilA)))) (orT (tst (op2 (eqF true) (fn1 reprG (consA (nm 10) nilA)) (nm 11))) (tst (op2 (eqF true) (nm 13) (nm 4)))))
  (retS (ret (.bl false))) (ret .nx))))))))))))))))
  (retS (op2 (isBF false) (fn1 (cvF ve) (consA (frz (lstA (consA (tupA (consA (tupA (consA (ret (.int 0)) (consA (ret (.int 1)) nilA))) nilA)) nilA))) (consA (tupA (consA (ret (.int 0)) (consA (frz (lstA nilA)) (consA (tupA (consA (ret (.str "left")) (consA (tupA (consA (ret (.int 0)) nilA)) nilA))) nilA)))) nilA))) (ret (.bl false))))))
def vf:List R->Option (R×List R):=fnD 15 1 yO
theorem nk {N:List Str} (h:decide N.Nodup=true:=by kernel_rfl):N.Nodup:=of_decide_eq_true h
theorem en (i:Nat){X:Cx}{B:BB}{x:Str}{pos:Pos} (hN:X.N[i]?=some x:=by rfl) (hv:visB X.env.scope x=true:=by rfl) (hd:(x == ("__debug__":Str))=false:=by decide) (aX:(x == ("__classdict__":Str))=false:=by decide):ED X B (.Name x pos) (nm i):=DD (pv i hN hv hd aX)
noncomputable def top (i:Nat):Stmt:=PySem.Challenge.pw_roofpost_k15_the_fewest_looked_at.main.body.getD i (.Pass ⟨0,0,0,0⟩)
abbrev At:Stmt:=top 4
abbrev Av:Stmt:=top 5
abbrev yZ:Stmt:=top 6
abbrev y6:Stmt:=top 7
abbrev zt:Stmt:=top 8
abbrev zS:Stmt:=top 9
abbrev AE:Stmt:=top 11
abbrev yf:Stmt:=top 12
abbrev yw:Stmt:=top 13
abbrev AJ:Stmt:=top 14
abbrev yR:Stmt:=top 16
abbrev xX:Stmt:=top 17
abbrev yQ:Stmt:=top 18
abbrev yi:Stmt:=top 19
abbrev AS:Stmt:=top 20
abbrev ye:Stmt:=top 21
abbrev wQ:Stmt:=top 22
abbrev zU:Stmt:=top 24
abbrev zw:Stmt:=top 25
abbrev zA:Stmt:=top 26
abbrev yp:Stmt:=top 27
abbrev Am:Stmt:=top 28
abbrev AG:Stmt:=top 29
abbrev yX:Stmt:=top 30
abbrev yD:Stmt:=top 31
abbrev zR:Stmt:=top 32
abbrev yY:Stmt:=top 33
abbrev zm:Stmt:=top 34
abbrev xg:Stmt:=top 35
abbrev zF:Stmt:=top 36
abbrev Ah:Stmt:=top 37
abbrev xE:Stmt:=top 38
abbrev Ai:Stmt:=top 39
abbrev yn:Stmt:=top 40
structure Cd (P:Program) (w:World) (K:PySem.W.Frag) (mg:Str->Option Value) (base:Heap) (k:Nat) (f:Addr) (fd:FuncData) (ps:List Str) (g:List R->Option (R×List R)) (x:Str):Prop where
 G:FnOk P w K mg base CX0 k f fd ps (spD K g)
 b:Binds K fd ps []
 p:keepIn K (.ref f)=true
 m:mg x=some (.ref f)
abbrev vv (P w K mg base f fd):=Cd P w K mg base 2 f fd ["things"] ur "must_be_kin"
abbrev F7 (P w K mg base f fd):=Cd P w K mg base 3 f fd ["wish", "letter"] wT "has_letter"
abbrev zh (P w K mg base f fd):=Cd P w K mg base 3 f fd ["one", "other"] wx "covers"
abbrev Eb (P w K mg base f fd):=Cd P w K mg base 3 f fd ["one", "other"] xF "in_common"
abbrev Ei (P w K mg base f fd):=Cd P w K mg base 5 f fd ["wishes"] vL "roof_of"
abbrev L5 (P w K mg base f fd):=Cd P w K mg base 4 f fd ["wishes", "wish"] w4 "is_under_another"
abbrev ES (P w K mg base f fd):=Cd P w K mg base 46 f fd ["wishes", "wish"] vy "covered"
abbrev Hn (P w K mg base f fd):=Cd P w K mg base 45 f fd ["wishes", "numbers", "part"] (u6 40) "looked_through"
abbrev B9 (P w K mg base f fd):=Cd P w K mg base 2 f fd ["wishes", "part"] xw "first_border"
abbrev Eu (P w K mg base f fd):=Cd P w K mg base 2 f fd ["part", "field", "at"] yc "halves_of"
abbrev Gn (P w K mg base f fd):=Cd P w K mg base 64 f fd ["wishes"] wJ "fewest_of"
abbrev J6 (P w K mg base f fd):=Cd P w K mg base 63 f fd ["roof", "chosen", "more"] (uA 10) "looked_for"
abbrev yy (P w K mg base f fd):=Cd P w K mg base 51 f fd ["roof", "chosen"] vS "letter_left"
abbrev wa (P w K mg base f fd):=Cd P w K mg base 4 f fd ["wishes", "letter"] uv "having"
abbrev EW (P w K mg base f fd):=Cd P w K mg base 52 f fd ["wishes", "thing"] ve "is_fewest"
abbrev F0 (P w K mg base f fd):=Cd P w K mg base 23 f fd ["tree"] (uV 20) "letters_in"
abbrev HP (P w K mg base f fd):=Cd P w K mg base 26 f fd ["roof", "chosen", "more", "tree"] (t9 20) "is_right_tree"
abbrev KI (P w K mg base f fd):=Cd P w K mg base 2 f fd ["cell", "at"] wE "_law_blend"
abbrev Fb (P w K mg base f fd):=Cd P w K mg base 2 f fd ["script"] wB "_law_pot"
abbrev u0 (P w K mg base f fd):=Cd P w K mg base 3 f fd ["pot", "upto"] tF "_law_pick"
abbrev zk (P w K mg base f fd):=Cd P w K mg base 4 f fd ["pot", "fields", "low", "top"] vA "_law_wish"
abbrev JJ (P w K mg base f fd):=Cd P w K mg base 5 f fd ["pot", "fields", "most"] xJ "_law_wishes"
abbrev Kw (P w K mg base f fd):=Cd P w K mg base 4 f fd ["pot", "wish"] xn "_law_nudged"
abbrev wH (P w K mg base f fd):=Cd P w K mg base 2 f fd ["wish", "letter"] uB "_law_has"
abbrev Hu (P w K mg base f fd):=Cd P w K mg base 2 f fd ["wish"] xR "_law_letters"
abbrev LC (P w K mg base f fd):=Cd P w K mg base 3 f fd ["one", "other"] xZ "_law_covers"
abbrev Kt (P w K mg base f fd):=Cd P w K mg base 4 f fd ["wishes"] wI "_law_roof"
abbrev DF (P w K mg base f fd):=Cd P w K mg base 3 f fd ["wishes", "some", "letter"] xL "_law_lacks"
abbrev Ho (P w K mg base f fd):=Cd P w K mg base 25 f fd ["wishes", "some", "choices", "tree"] (ue 20) "_law_is_shown"
abbrev F1 (P w K mg base f fd):=Cd P w K mg base 26 f fd ["wishes", "thing"] v3 "_law_due"
abbrev zW (P w K mg base f fd):=Cd P w K mg base 4 f fd ["pot", "wishes"] wl "_law_letter"
abbrev KR (P w K mg base f fd):=Cd P w K mg base 26 f fd ["pot", "wishes", "tree"] (u3 20) "_law_bent_tree"
abbrev HC (P w K mg base f fd):=Cd P w K mg base 27 f fd ["pot", "wishes", "thing"] xV "_law_bent"
section
variable {X:Cx}{B:BB}{e:Expr}{es:List Expr}{pos p:Pos}{k kr i:Nat}{f:Addr}{fd:FuncData}{ps:List Str}{x y:Str}{py:Pos}{g:List R->Option (R×List R)}{t:M (List D)} (G:Cd X.prog X.w X.K X.mg X.base k f fd ps g x) (hr:Room kr X.A)
include G hr
theorem cqE (ha:AD X B (e::es) t) (hk:k<=kr:=by decide) (hg:Gl X x:=by exact rfl) (bi:(x == ("__debug__":Str))=false:=by decide) (he:starEach (e::es) X.env=(false,eval e X.env)::starEach es X.env:=by rfl) (az:(backTo pos (starEach es X.env)).any (·.1)=false:=by rfl):ED X B (.Call (.Name x p) (e::es) [] pos) (fn1 (cvF g) t):=t6 G.G (hr.mono hk) hg G.m G.p G.b ha bi he az
theorem cqO (ha:AD X B (e::es) t) (hk:k<=kr:=by decide) (hg:Gl X x:=by exact rfl) (bi:(x == ("__debug__":Str))=false:=by decide) (he:starEach (e::es) X.env=(false,eval e X.env)::starEach es X.env:=by rfl) (az:(backTo pos (starEach es X.env)).any (·.1)=false:=by rfl):EO X B (.Call (.Name x p) (e::es) [] pos) (fn1 (coF g) t):=wP G.G (hr.mono hk) hg G.m G.p G.b ha bi he az
theorem cqEB (hv:PE X (.Name y py) (tVar i)) (ha:AD X B es t) (hk:k<=kr:=by decide) (hg:Gl X x:=by exact rfl) (bi:(x == ("__debug__":Str))=false:=by decide) (he:starEach (.Name y py::es) X.env=(false,eval (.Name y py) X.env)::starEach es X.env:=by rfl) (az:(backTo pos (starEach es X.env)).any (·.1)=false:=by rfl):ED X B (.Call (.Name x p) (.Name y py::es) [] pos) (cbV i g t):=we G.G (hr.mono hk) hg G.m G.p G.b hv ha bi he az
end
section
variable {P:Program}{w:World}{K:PySem.W.Frag}{mg:Str->Option Value}{base:Heap}
theorem Ky:FnScope ["things", "thing"] ["things"] (defScope At):=⟨rfl,rfl,rfl,by decide +kernel,rfl,by decide +kernel,by decide +kernel⟩
theorem HW {f:Addr}{fd:FuncData} (F:Fun K "must_be_kin" "must_be_kin" At f fd) (ai:mg "len"=none):FnOk P w K mg base CX0 2 f fd ["things"] (spD K ur) :=
 tu (k:=1) (N:=["things", "thing"]) F Ky yH (λau A outer s H E B hr=>tq
  (sL (tN never rfl (tv (en 0)) (gd_n (i:=1) (m:=100) nk)
  (sL (sX (t7 hr (tK rfl ai (f' (en 1) gx rfl)) (tK rfl ai (f' (sK (en 0) lK) gx rfl)))
  (sL (sJ Kz)) sY)))))
theorem IY:FnScope ["wish", "letter"] ["wish", "letter"] (defScope Av):=⟨rfl,rfl,rfl,by decide +kernel,rfl,by decide +kernel,by decide +kernel⟩
theorem JQ {f:Addr}{fd:FuncData} (F:Fun K "has_letter" "has_letter" Av f fd) {aQ' aO'} (c9:vv P w K mg base aQ' aO') (aC:mg "zip"=none) (bn:mg "all"=none):FnOk P w K mg base CX0 3 f fd ["wish", "letter"] (spD K wT) :=
 tu (k:=2) (N:=["wish", "letter"]) F IY yG (λau A outer s H E B hr=>tq
  (sF (sJ (vQ (cqE c9 hr (f' (sM (sS (f' (en 0) (f' (en 1) gx rfl) rfl))) gx rfl))))
  (sL (sJ (sQ (z8 rfl rfl bn (f' (sM (tR (N':=["pair", "number", "-wish", "-letter"]) (m:=2) (CompScope.of (by kernel_rfl)) rfl (u7 rfl aC (f' (en 0) (f' (en 1) gx rfl) rfl)) (λ_ _ _ _=>(um (m:=2) rfl (tE (gd_n (i:=0) (m:=2) nk) (tE (gd_n (i:=1) (m:=2) nk) ug)))) (λ_ _ _ _=>ub) (λ_ _ _ _=>(LI (sK (en 0) lK) (en 1) (sK (en 0) lK))))) gx rfl)))))))
theorem II:FnScope ["one", "other"] ["one", "other"] (defScope yZ):=⟨rfl,rfl,rfl,by decide +kernel,rfl,by decide +kernel,by decide +kernel⟩
theorem Jv {f:Addr}{fd:FuncData} (F:Fun K "covers" "covers" yZ f fd) {aQ' aO'} (c9:vv P w K mg base aQ' aO') (aC:mg "zip"=none) (bn:mg "all"=none):FnOk P w K mg base CX0 3 f fd ["one", "other"] (spD K wx) :=
 tu (k:=2) (N:=["one", "other"]) F II Ac (λau A outer s H E B hr=>tq
  (sF (sJ (vQ (cqE c9 hr (f' (sM (sS (f' (en 0) (f' (en 1) gx rfl) rfl))) gx rfl))))
  (sL (sJ (sQ (z8 rfl rfl bn (f' (sM (tR (N':=["wide", "pair", "-one", "-other"]) (m:=2) (CompScope.of (by kernel_rfl)) rfl (u7 rfl aC (f' (en 0) (f' (en 1) gx rfl) rfl)) (λ_ _ _ _=>(um (m:=2) rfl (tE (gd_n (i:=0) (m:=2) nk) (tE (gd_n (i:=1) (m:=2) nk) ug)))) (λ_ _ _ _=>ub) (λ_ _ _ _=>(xf (AY (sK (en 0) lK) (sK (en 1) lK)) (xt (AY (sK (en 1) lK) (sK (en 0) lK))))))) gx rfl)))))))
theorem Jb:FnScope ["one", "other", "shared", "pair", "twin", "low", "high"] ["one", "other"] (defScope y6):=⟨rfl,rfl,rfl,by decide +kernel,rfl,by decide +kernel,by decide +kernel⟩
theorem Jg {f:Addr}{fd:FuncData} (F:Fun K "in_common" "in_common" y6 f fd) {aQ' aO'} (c9:vv P w K mg base aQ' aO') (aC:mg "zip"=none) (aV:mg "max"=none) (aD:mg "min"=none) (aq:mg "tuple"=none):FnOk P w K mg base CX0 3 f fd ["one", "other"] (spD K xF) :=
 tu (k:=2) (N:=["one", "other", "shared", "pair", "twin", "low", "high"]) F Jb zD (λau A outer s H E B hr=>tq
  (sF (sJ (vQ (cqE c9 hr (f' (sM (sS (f' (en 0) (f' (en 1) gx rfl) rfl))) gx rfl))))
  (sF (sJ (uw (i:=2) nk (sS gx)))
  (sF (tN never rfl (u7 rfl aC (f' (en 0) (f' (en 1) gx rfl) rfl)) (um (m:=100) rfl (tE (gd_n (i:=3) (m:=100) nk) (tE (gd_n (i:=4) (m:=100) nk) ug)))
  (sF (sP (i:=5) nk (vY rfl rfl aV (f' (sK (en 3) lK) (f' (sK (en 4) lK) gx rfl) rfl)))
  (sF (sP (i:=6) nk (u5 rfl rfl aD (f' (sK (en 3) lK) (f' (sK (en 4) lK) gx rfl) rfl)))
  (sF (sX (yE (en 5) (en 6))
  (sL (sJ (sQ vt))) sY)
  (sL (sJ (uM (pv 2) (sU (f' (en 5) (f' (en 6) gx rfl) rfl)))))))))
  (sL (sJ (sQ (uS rfl aq (f' (en 2) gx rfl)))))))))
theorem L8:FnScope ["wishes", "unlike"] ["wishes"] (defScope zt):=⟨rfl,rfl,rfl,by decide +kernel,rfl,by decide +kernel,by decide +kernel⟩
theorem K4 {f:Addr}{fd:FuncData} (F:Fun K "roof_of" "roof_of" zt f fd) {aQ' aO'} (c9:vv P w K mg base aQ' aO') {f4' fu'} (pZ:L5 P w K mg base f4' fu') (ay:mg "sorted"=none) (cA:mg "set"=none):FnOk P w K mg base CX0 5 f fd ["wishes"] (spD K vL) :=
 tu (k:=4) (N:=["wishes", "unlike"]) F L8 yl (λau A outer s H E B hr=>tq
  (sF (sJ (vQ (cqE c9 hr (f' (en 0) gx rfl))))
  (sF (sP (i:=1) nk (sM (Eo hr rfl ay rfl cA (f' (en 0) gx rfl))))
  (sL (sJ (yP (tR (N':=["wish", "-wishes", "unlike"]) (m:=1) (CompScope.of (by kernel_rfl)) rfl (tv (en 1)) (λ_ _ _ _=>(gd_n (i:=0) (m:=1) nk)) (λ_ _ _ _=>(uu (Ay (uF (cqE pZ hr (f' (en 2) (f' (en 0) gx rfl) rfl)))))) (λ_ _ _ _=>(en 0)))))))))
theorem L6:FnScope ["wishes", "wish"] ["wishes", "wish"] (defScope zS):=⟨rfl,rfl,rfl,by decide +kernel,rfl,by decide +kernel,by decide +kernel⟩
theorem Hz {f:Addr}{fd:FuncData} (F:Fun K "is_under_another" "is_under_another" zS f fd) {eh' dv'} (dI:zh P w K mg base eh' dv') (fb:mg "any"=none):FnOk P w K mg base CX0 4 f fd ["wishes", "wish"] (spD K w4) :=
 tu (k:=3) (N:=["wishes", "wish"]) F L6 As (λau A outer s H E B hr=>tq
  (sL (sJ (sQ (KZ rfl rfl fb (f' (sM (tR (N':=["one", "-wishes", "wish"]) (m:=1) (CompScope.of (by kernel_rfl)) rfl (tv (en 0)) (λ_ _ _ _=>(gd_n (i:=0) (m:=1) nk)) (λ_ _ _ _=>ub) (λ_ _ _ _=>(xf (Lx hr (en 0) (en 2)) (xt (cqE dI hr (f' (en 0) (f' (en 2) gx rfl) rfl))))))) gx rfl))))))
theorem Mq:FnScope ["wishes", "wish"] ["wishes", "wish"] (defScope AE):=⟨rfl,rfl,rfl,by decide +kernel,rfl,by decide +kernel,by decide +kernel⟩
theorem Lo {f:Addr}{fd:FuncData} (F:Fun K "covered" "covered" AE f fd) {aQ' aO'} (c9:vv P w K mg base aQ' aO') {g5' gp'} (qa:Hn P w K mg base g5' gp') (ai:mg "len"=none) (bb:mg "list"=none) (aE:mg "range"=none):FnOk P w K mg base CX0 46 f fd ["wishes", "wish"] (spD K vy) :=
 tu (k:=45) (N:=["wishes", "wish"]) F Mq yh (λau A outer s H E B hr=>tq
  (sF (sJ (vQ (cqE c9 hr (f' (sM (tW (sM (sS (f' (en 1) gx rfl))) (en 0))) gx rfl))))
  (sL (sJ (sQ (cqE qa hr (f' (en 0) (f' (sM (G7 rfl rfl bb rfl aE (f' (tK rfl ai (f' (en 0) gx rfl)) gx rfl))) (f' (en 1) gx rfl) rfl) rfl)))))))
theorem EK:FnScope ["wishes", "numbers", "part", "near", "k", "place", "halves", "one", "other"] ["wishes", "numbers", "part"] (defScope yf):=⟨rfl,rfl,rfl,by decide +kernel,rfl,by decide +kernel,by decide +kernel⟩
theorem FZ {g:List R->Option (R×List R)}{kk:Nat} (hk:4<=kk){f:Addr}{fd:FuncData} (F:Fun K "looked_through" "looked_through" yf f fd) (G:FnOk P w K mg base CX0 kk f fd ["wishes", "numbers", "part"] (spD K g)) {eH' ei'} (fc:Eb P w K mg base eH' ei') {eh' dv'} (dI:zh P w K mg base eh' dv') {dh' cW'} (fe:B9 P w K mg base dh' cW') {eI' ej'} (fg:Eu P w K mg base eI' ej') (ai:mg "len"=none) (aq:mg "tuple"=none) (gX:Binds K fd ["wishes", "numbers", "part"] []) (gY:keepIn K (.ref f)=true) (gZ:mg "looked_through"=some (.ref f)):FnOk P w K mg base CX0 (kk+1) f fd ["wishes", "numbers", "part"] (spD K (fnD 9 3 (w8 g))) :=
 tu (N:=["wishes", "numbers", "part", "near", "k", "place", "halves", "one", "other"]) F EK (w8 g) (λau A outer s H E B hr=>tq
  (sF (sJ (vD (i:=3) (N':=["k", "wishes", "-numbers", "part", "-near", "-k", "-place", "-halves", "-one", "-other"]) (m:=1) (CompScope.of (by kernel_rfl)) rfl nk (tv (en 1)) (λ_ _ _ _=>(gd_n (i:=0) (m:=1) nk)) (λ_ _ _ _=>(uu (F9 (t6 fc.G (hr.mono (le_trans (by decide) hk)) rfl fc.m fc.p fc.b (f' (sK (en 1) (en 0)) (f' (en 3) gx rfl) rfl)) vt))) (λ_ _ _ _=>(en 0))))
  (sF (sX (tH hr (tK rfl ai (f' (en 3) gx rfl)) lK)
  (sL (sJ (sQ (sU (f' tw (f' (uS rfl aq (f' (sM (tR (N':=["pair", "-wishes", "-numbers", "-part", "-near", "-k", "-place", "-halves", "-one", "-other"]) (m:=1) (CompScope.of (by kernel_rfl)) rfl (tv (en 2)) (λ_ _ _ _=>(gd_n (i:=0) (m:=1) nk)) (λ_ _ _ _=>ub) (λ_ _ _ _=>(sK (en 0) lK)))) gx rfl)) gx rfl) rfl))))) sY)
  (sF (tN never rfl (tv (en 3)) (gd_n (i:=4) (m:=100) nk)
  (sL (sX (uF (t6 dI.G (hr.mono (le_trans (by decide) hk)) rfl dI.m dI.p dI.b (f' (sK (en 0) (en 4)) (f' (en 2) gx rfl) rfl)))
  (sL (sJ (sQ (sU (f' tw (f' (sU (f' tw (f' (en 4) gx rfl) rfl)) gx rfl) rfl))))) sY)))
  (sF (sP (i:=5) nk (t6 fe.G (hr.mono (le_trans (by decide) hk)) rfl fe.m fe.p fe.b (f' (sM (tR (N':=["k", "wishes", "-numbers", "-part", "-near", "-k", "-place", "-halves", "-one", "-other"]) (m:=1) (CompScope.of (by kernel_rfl)) rfl (tv (en 3)) (λ_ _ _ _=>(gd_n (i:=0) (m:=1) nk)) (λ_ _ _ _=>ub) (λ_ _ _ _=>(sK (en 1) (en 0))))) (f' (en 2) gx rfl) rfl)))
  (sF (sP (i:=6) nk (t6 fg.G (hr.mono (le_trans (by decide) hk)) rfl fg.m fg.p fg.b (f' (en 2) (f' (sK (en 5) lK) (f' (sK (en 5) lK) gx rfl) rfl) rfl)))
  (sF (sP (i:=7) nk (t6 G hr rfl gZ gY gX (f' (en 0) (f' (en 3) (f' (sK (en 6) lK) gx rfl) rfl) rfl)))
  (sF (sX (tH hr (sK (en 7) lK) tw)
  (sL (sJ (sQ (en 7)))) sY)
  (sF (sP (i:=8) nk (t6 G hr rfl gZ gY gX (f' (en 0) (f' (en 3) (f' (sK (en 6) lK) gx rfl) rfl) rfl)))
  (sF (sX (tH hr (sK (en 8) lK) tw)
  (sL (sJ (sQ (en 8)))) sY)
  (sL (sJ (sQ (sU (f' tw (f' (sU (uP tw (sK (en 5) lK) (sK (en 5) lK) (sK (en 7) lK) (f' (sK (en 8) lK) gx rfl) rfl rfl rfl rfl)) gx rfl) rfl)))))))))))))))
theorem A9 {f:Addr}{fd:FuncData} (F:Fun K "looked_through" "looked_through" yf f fd) {eH' ei'} (fc:Eb P w K mg base eH' ei') {eh' dv'} (dI:zh P w K mg base eh' dv') {dh' cW'} (fe:B9 P w K mg base dh' cW') {eI' ej'} (fg:Eu P w K mg base eI' ej') (ai:mg "len"=none) (aq:mg "tuple"=none) (gX:Binds K fd ["wishes", "numbers", "part"] []) (gY:keepIn K (.ref f)=true) (gZ:mg "looked_through"=some (.ref f)):∀ n:Nat,FnOk P w K mg base CX0 (5+n) f fd ["wishes", "numbers", "part"] (spD K (u6 n))
 | 0=>vx
 | n+1=>FZ (le_trans (by decide) (le_add_right _ n)) F (A9 F fc dI fe fg ai aq gX gY gZ n) fc dI fe fg ai aq gX gY gZ
theorem Jq:FnScope ["wishes", "part", "places", "field", "pair", "wish"] ["wishes", "part"] (defScope yw):=⟨rfl,rfl,rfl,by decide +kernel,rfl,by decide +kernel,by decide +kernel⟩
theorem Ku {f:Addr}{fd:FuncData} (F:Fun K "first_border" "first_border" yw f fd) (aS:mg "enumerate"=none) (aD:mg "min"=none):FnOk P w K mg base CX0 2 f fd ["wishes", "part"] (spD K xw) :=
 tu (k:=1) (N:=["wishes", "part", "places", "field", "pair", "wish"]) F Jq yL (λau A outer s H E B hr=>tq
  (sF (sJ (uw (i:=2) nk (sS gx)))
  (sF (tN never rfl (CD rfl aS (f' (en 1) gx rfl)) (um (m:=100) rfl (tE (gd_n (i:=3) (m:=100) nk) (tE (gd_n (i:=4) (m:=100) nk) ug)))
  (sL (tN never rfl (tv (en 0)) (gd_n (i:=5) (m:=100) nk)
  (sF (sX (uW (sK (en 4) lK) (sK (sK (en 5) (en 3)) lK))
  (sL (sJ (uM (pv 2) (sU (f' (en 3) (f' (ud (sK (sK (en 5) (en 3)) lK) lK) gx rfl) rfl))))) sY)
  (sL (sX (uW (sK (sK (en 5) (en 3)) lK) (sK (en 4) lK))
  (sL (sJ (uM (pv 2) (sU (f' (en 3) (f' (sK (sK (en 5) (en 3)) lK) gx rfl) rfl))))) sY))))))
  (sL (sJ (sQ (HA rfl hr rfl aD (f' (en 2) gx rfl))))))))
theorem Mb:FnScope ["part", "field", "at", "ahead", "behind", "low", "high"] ["part", "field", "at"] (defScope AJ):=⟨rfl,rfl,rfl,by decide +kernel,rfl,by decide +kernel,by decide +kernel⟩
theorem G0 {f:Addr}{fd:FuncData} (F:Fun K "halves_of" "halves_of" AJ f fd) :FnOk P w K mg base CX0 2 f fd ["part", "field", "at"] (spD K yc) :=
 tu (k:=1) (N:=["part", "field", "at", "ahead", "behind", "low", "high"]) F Mb zO (λau A outer s H E B hr=>tq
  (sF (sP (i:=3) nk (tX (en 0) t5 (tQ (en 1))))
  (sF (sP (i:=4) nk (tX (en 0) (tQ (sW (en 1) lK)) t5))
  (sF (sP (i:=5) nk (sK (sK (en 0) (en 1)) lK))
  (sF (sP (i:=6) nk (sK (sK (en 0) (en 1)) lK))
  (sL (sJ (sQ (sU (f' (sW (sW (en 3) (sU (f' (sU (f' (en 5) (f' (en 2) gx rfl) rfl)) gx rfl))) (en 4)) (f' (sW (sW (en 3) (sU (f' (sU (f' (sW (en 2) lK) (f' (en 6) gx rfl) rfl)) gx rfl))) (en 4)) gx rfl) rfl))))))))))
theorem K2:FnScope ["wishes", "roof", "number", "tree", "told"] ["wishes"] (defScope yR):=⟨rfl,rfl,rfl,by decide +kernel,rfl,by decide +kernel,by decide +kernel⟩
theorem Ht {f:Addr}{fd:FuncData} (F:Fun K "fewest_of" "fewest_of" yR f fd) {f6' fo'} (k9:Ei P w K mg base f6' fo') {k8' jB'} (np:J6 P w K mg base k8' jB'):FnOk P w K mg base CX0 64 f fd ["wishes"] (spD K wJ) :=
 tu (k:=63) (N:=["wishes", "roof", "number", "tree", "told"]) F K2 AV (λau A outer s H E B hr=>tq
  (sF (sP (i:=1) nk (sM (cqO k9 hr (f' (en 0) gx rfl))))
  (sF (sP (i:=2) nk lK)
  (sF (sP (i:=3) nk vt)
  (sF (sP (i:=4) nk (cqE np hr (f' (en 1) (f' (sM (sS gx)) (f' (en 2) gx rfl) rfl) rfl)))
  (sF (IG never (t7 hr (sK (en 4) lK) tw)
  (sF (sP (i:=3) nk (en 4))
  (sF (sP (i:=2) nk (sW (en 2) lK))
  (sL (sP (i:=4) nk (cqE np hr (f' (en 1) (f' (sM (sS gx)) (f' (en 2) gx rfl) rfl) rfl)))))))
  (sL (sJ (sQ (sU (f' (en 2) (f' (sK (en 4) lK) (f' (en 3) gx rfl) rfl) rfl)))))))))))
theorem JS:FnScope ["roof", "chosen", "more", "letter", "trees", "wish", "told"] ["roof", "chosen", "more"] (defScope xX):=⟨rfl,rfl,rfl,by decide +kernel,rfl,by decide +kernel,by decide +kernel⟩
theorem Fq {g:List R->Option (R×List R)}{kk:Nat} (hk:52<=kk){f:Addr}{fd:FuncData} (F:Fun K "looked_for" "looked_for" xX f fd) (G:FnOk P w K mg base CX0 kk f fd ["roof", "chosen", "more"] (spD K g)) {bV' bP'} (dJ:yy P w K mg base bV' bP') {bT' bE'} (bI:wa P w K mg base bT' bE') (ay:mg "sorted"=none) (iR:Binds K fd ["roof", "chosen", "more"] []) (iS:keepIn K (.ref f)=true) (iU:mg "looked_for"=some (.ref f)):FnOk P w K mg base CX0 (kk+1) f fd ["roof", "chosen", "more"] (spD K (fnD 7 3 (wW g))) :=
 tu (N:=["roof", "chosen", "more", "letter", "trees", "wish", "told"]) F JS (wW g) (λau A outer s H E B hr=>tq
  (sF (sP (i:=3) nk (t6 dJ.G (hr.mono (le_trans (by decide) hk)) rfl dJ.m dJ.p dJ.b (f' (en 0) (f' (en 1) gx rfl) rfl)))
  (sF (sX (GE (en 3) vt)
  (sL (sJ (sQ (sU (f' tw (f' (sM (yN hr rfl ay (f' (en 1) gx rfl))) gx rfl) rfl))))) sY)
  (sF (sX (tH hr (en 2) lK)
  (sL (sJ (sQ (sU (f' tw (f' (en 3) gx rfl) rfl))))) sY)
  (sF (sJ (uw (i:=4) nk (sS gx)))
  (sF (tN never rfl (tv (sM (wP bI.G (hr.mono (le_trans (by decide) hk)) rfl bI.m bI.p bI.b (f' (en 0) (f' (en 3) gx rfl) rfl)))) (gd_n (i:=5) (m:=100) nk)
  (sF (sP (i:=6) nk (t6 G hr rfl iU iS iR (f' (en 0) (f' (sM (tW (en 1) (sM (sS (f' (en 5) gx rfl))))) (f' (ud (en 2) lK) gx rfl) rfl) rfl)))
  (sF (sX (tH hr (sK (en 6) lK) tw)
  (sL (sJ (sQ (en 6)))) sY)
  (sL (sJ (uM (pv 4) (en 6)))))))
  (sL (sJ (sQ (sU (f' tw (f' (en 3) (f' (en 4) gx rfl) rfl) rfl)))))))))))
theorem DZ {f:Addr}{fd:FuncData} (F:Fun K "looked_for" "looked_for" xX f fd) {bV' bP'} (dJ:yy P w K mg base bV' bP') {bT' bE'} (bI:wa P w K mg base bT' bE') (ay:mg "sorted"=none) (iR:Binds K fd ["roof", "chosen", "more"] []) (iS:keepIn K (.ref f)=true) (iU:mg "looked_for"=some (.ref f)):∀ n:Nat,FnOk P w K mg base CX0 (53+n) f fd ["roof", "chosen", "more"] (spD K (uA n))
 | 0=>vx
 | n+1=>Fq (le_trans (by decide) (le_add_right _ n)) F (DZ F dJ bI ay iR iS iU n) dJ bI ay iR iS iU
theorem HE:FnScope ["roof", "chosen", "told", "letters"] ["roof", "chosen"] (defScope yQ):=⟨rfl,rfl,rfl,by decide +kernel,rfl,by decide +kernel,by decide +kernel⟩
theorem Ga {f c P':Addr}{fd:FuncData} (F:Fun K "letter_left" "letter_left" yQ f fd) (iV:nsIn K mainGlobals "letter_left"=some (some (.ref f))) (fC:tabIn K "letter_left"=some (c,P')) {pc' no'} (qb:ES P w K mg base pc' no') {bT' bE'} (bI:wa P w K mg base bT' bE') (aD:mg "min"=none) (ai:mg "len"=none):FnOk P w K mg base CX0 51 f fd ["roof", "chosen"] (spD K vS) :=
 K8 (k:=50) (N:=["roof", "chosen", "told", "letters"]) F HE iV fC AR (λau aX A outer s H E B hr=>tq
  (sF (sJ (vD (i:=2) (N':=["wish", "-roof", "chosen", "-told", "-letters"]) (m:=1) (CompScope.of (by kernel_rfl)) rfl nk (tv (en 0)) (λ_ _ _ _=>(gd_n (i:=0) (m:=1) nk)) (λ_ _ _ _=>ub) (λ_ _ _ _=>(cqE qb hr (f' (en 2) (f' (en 0) gx rfl) rfl)))))
  (sF (sJ (vD (i:=3) (N':=["one", "-roof", "-chosen", "-told", "-letters"]) (m:=1) (CompScope.of (by kernel_rfl)) rfl nk (tv (en 2)) (λ_ _ _ _=>(gd_n (i:=0) (m:=1) nk)) (λ_ _ _ _=>(uu (tH hr (sK (en 0) lK) tw))) (λ_ _ _ _=>(sK (en 0) lK))))
  (sL (sJ (sQ (FX (kb:=5) (hr.mono (by decide)) rfl aD (G8 (jc:=0) (g := "letter") (y := "roof") rfl rfl (λA s H f cv hr=>(tK rfl ai (f' (sM (cqO bI hr (f' (en 1) (f' (en 0) gx rfl) rfl))) gx rfl)))) fC aX rfl rfl rfl (en 3))))))))
theorem KH:FnScope ["wishes", "letter"] ["wishes", "letter"] (defScope yi):=⟨rfl,rfl,rfl,by decide +kernel,rfl,by decide +kernel,by decide +kernel⟩
theorem KC {f:Addr}{fd:FuncData} (F:Fun K "having" "having" yi f fd) {k9' jC'} (qc:F7 P w K mg base k9' jC'):FnOk P w K mg base CX0 4 f fd ["wishes", "letter"] (spD K uv) :=
 tu (k:=3) (N:=["wishes", "letter"]) F KH AF (λau A outer s H E B hr=>tq
  (sL (sJ (yP (tR (N':=["wish", "-wishes", "letter"]) (m:=1) (CompScope.of (by kernel_rfl)) rfl (tv (en 0)) (λ_ _ _ _=>(gd_n (i:=0) (m:=1) nk)) (λ_ _ _ _=>(uu (uF (cqE qc hr (f' (en 0) (f' (en 2) gx rfl) rfl))))) (λ_ _ _ _=>(en 0)))))))
theorem Gp:FnScope ["wishes", "thing", "number", "some", "roof"] ["wishes", "thing"] (defScope AS):=⟨rfl,rfl,rfl,by decide +kernel,rfl,by decide +kernel,by decide +kernel⟩
theorem KU {f:Addr}{fd:FuncData} (F:Fun K "is_fewest" "is_fewest" AS f fd) {aQ' aO'} (c9:vv P w K mg base aQ' aO') {lb' jD'} (qe:F0 P w K mg base lb' jD') {f6' fo'} (k9:Ei P w K mg base f6' fo') {h0' g7'} (qf:HP P w K mg base h0' g7') {bV' bP'} (dJ:yy P w K mg base bV' bP') (ai:mg "len"=none):FnOk P w K mg base CX0 52 f fd ["wishes", "thing"] (spD K ve) :=
 tu (k:=51) (N:=["wishes", "thing", "number", "some", "roof"]) F Gp yC (λau A outer s H E B hr=>tq
  (sF (sP (i:=2) nk (sK (en 1) lK))
  (sF (sP (i:=3) nk (sK (en 1) lK))
  (sF (sJ (vQ (cqE c9 hr (f' (sM (tW (sM (tW (en 0) (en 3))) (cqE qe hr (f' (sK (en 1) lK) gx rfl)))) gx rfl))))
  (sF (sP (i:=4) nk (sM (cqO k9 hr (f' (en 0) gx rfl))))
  (sF (sX (TW.td (uH (t7 hr (tK rfl ai (f' (en 3) gx rfl)) (en 2)) (vh (t7 hr (en 3) (sM (tR (N':=["wish", "-wishes", "-thing", "-number", "some", "-roof"]) (m:=1) (CompScope.of (by kernel_rfl)) rfl (tv (en 4)) (λ_ _ _ _=>(gd_n (i:=0) (m:=1) nk)) (λ_ _ _ _=>(uu (HJ hr (en 0) (en 4)))) (λ_ _ _ _=>(en 0))))))))
  (sL (sJ (sQ uk))) sY)
  (sL (sJ (sQ (xf (Jw (cqE dJ hr (f' (en 4) (f' (en 3) gx rfl) rfl)) vt) (xt (cqE qf hr (uP (en 4) (sM (sS gx)) (ud (en 2) lK) (sK (en 1) lK) gx rfl rfl rfl rfl)))))))))))))
theorem EZ:FnScope ["tree", "letters", "twig"] ["tree"] (defScope ye):=⟨rfl,rfl,rfl,by decide +kernel,rfl,by decide +kernel,by decide +kernel⟩
theorem LV {g:List R->Option (R×List R)}{kk:Nat} (hk:2<=kk){f:Addr}{fd:FuncData} (F:Fun K "letters_in" "letters_in" ye f fd) (G:FnOk P w K mg base CX0 kk f fd ["tree"] (spD K g)) (iW:Binds K fd ["tree"] []) (iX:keepIn K (.ref f)=true) (iY:mg "letters_in"=some (.ref f)):FnOk P w K mg base CX0 (kk+1) f fd ["tree"] (spD K (fnD 3 1 (v6 g))) :=
 tu (N:=["tree", "letters", "twig"]) F EZ (v6 g) (λau A outer s H E B hr=>tq
  (sF (sJ (uw (i:=1) nk (sS (f' (sK (en 0) lK) gx rfl))))
  (sF (sX (tH hr (sK (en 0) lK) tw)
  (sL (tN never rfl (tv (sK (en 0) lK)) (gd_n (i:=2) (m:=100) nk)
  (sL (sJ (BG (pv 1) (t6 G hr rfl iY iX iW (f' (en 2) gx rfl))))))) sY)
  (sL (sJ (sQ (en 1)))))))
theorem Ch {f:Addr}{fd:FuncData} (F:Fun K "letters_in" "letters_in" ye f fd) (iW:Binds K fd ["tree"] []) (iX:keepIn K (.ref f)=true) (iY:mg "letters_in"=some (.ref f)):∀ n:Nat,FnOk P w K mg base CX0 (3+n) f fd ["tree"] (spD K (uV n))
 | 0=>vx
 | n+1=>LV (le_trans (by decide) (le_add_right _ n)) F (Ch F iW iX iY n) iW iX iY
theorem KP:FnScope ["roof", "chosen", "more", "tree", "letter", "choices"] ["roof", "chosen", "more", "tree"] (defScope wQ):=⟨rfl,rfl,rfl,by decide +kernel,rfl,by decide +kernel,by decide +kernel⟩
theorem GB {g:List R->Option (R×List R)}{kk:Nat} (hk:5<=kk){f:Addr}{fd:FuncData} (F:Fun K "is_right_tree" "is_right_tree" wQ f fd) (G:FnOk P w K mg base CX0 kk f fd ["roof", "chosen", "more", "tree"] (spD K g)) {bT' bE'} (bI:wa P w K mg base bT' bE') (ai:mg "len"=none) (aC:mg "zip"=none) (bn:mg "all"=none) (iZ:Binds K fd ["roof", "chosen", "more", "tree"] []) (i0:keepIn K (.ref f)=true) (i3:mg "is_right_tree"=some (.ref f)):FnOk P w K mg base CX0 (kk+1) f fd ["roof", "chosen", "more", "tree"] (spD K (fnD 6 4 (wq g))) :=
 tu (N:=["roof", "chosen", "more", "tree", "letter", "choices"]) F KP (wq g) (λau A outer s H E B hr=>tq
  (sF (sP (i:=4) nk (sK (en 3) lK))
  (sF (sP (i:=5) nk (sM (wP bI.G (hr.mono (le_trans (by decide) hk)) rfl bI.m bI.p bI.b (f' (en 0) (f' (en 4) gx rfl) rfl))))
  (sF (sX (TW.td (uH (tH hr (tK rfl ai (f' (en 5) gx rfl)) lK) (vh (yE (tK rfl ai (f' (sM (wP bI.G (hr.mono (le_trans (by decide) hk)) rfl bI.m bI.p bI.b (f' (en 1) (f' (en 4) gx rfl) rfl))) gx rfl)) lK))))
  (sL (sJ (sQ uk))) sY)
  (sF (sX (tH hr (sK (en 3) lK) tw)
  (sL (sJ (sQ (xu hr (en 2) lK)))) sY)
  (sF (sX (TW.td (uH (tH hr (en 2) lK) (vh (t7 hr (tK rfl ai (f' (sK (en 3) lK) gx rfl)) (tK rfl ai (f' (en 5) gx rfl))))))
  (sL (sJ (sQ uk))) sY)
  (sL (sJ (sQ (z8 rfl rfl bn (f' (sM (tR (N':=["wish", "twig", "roof", "chosen", "more", "-tree", "-letter", "-choices"]) (m:=2) (CompScope.of (by kernel_rfl)) rfl (u7 rfl aC (f' (en 5) (f' (sK (en 3) lK) gx rfl) rfl)) (λ_ _ _ _=>(um (m:=2) rfl (tE (gd_n (i:=0) (m:=2) nk) (tE (gd_n (i:=1) (m:=2) nk) ug)))) (λ_ _ _ _=>ub) (λ_ _ _ _=>(t6 G hr rfl i3 i0 iZ (uP (en 2) (sM (tW (en 3) (sM (sS (f' (en 0) gx rfl))))) (ud (en 4) lK) (en 1) gx rfl rfl rfl rfl))))) gx rfl)))))))))))
theorem Bk {f:Addr}{fd:FuncData} (F:Fun K "is_right_tree" "is_right_tree" wQ f fd) {bT' bE'} (bI:wa P w K mg base bT' bE') (ai:mg "len"=none) (aC:mg "zip"=none) (bn:mg "all"=none) (iZ:Binds K fd ["roof", "chosen", "more", "tree"] []) (i0:keepIn K (.ref f)=true) (i3:mg "is_right_tree"=some (.ref f)):∀ n:Nat,FnOk P w K mg base CX0 (6+n) f fd ["roof", "chosen", "more", "tree"] (spD K (t9 n))
 | 0=>vx
 | n+1=>GB (le_trans (by decide) (le_add_right _ n)) F (Bk F bI ai aC bn iZ i0 i3 n) bI ai aC bn iZ i0 i3
theorem Mr:FnScope ["cell", "at", "one", "two", "three"] ["cell", "at"] (defScope zU):=⟨rfl,rfl,rfl,by decide +kernel,rfl,by decide +kernel,by decide +kernel⟩
theorem Jl {f:Addr}{fd:FuncData} (F:Fun K "_law_blend" "_law_blend" zU f fd) :FnOk P w K mg base CX0 2 f fd ["cell", "at"] (spD K wE) :=
 tu (k:=1) (N:=["cell", "at", "one", "two", "three"]) F Mr Au (λau A outer s H E B hr=>tq
  (sF (sX (Lh (en 0) (wg lK lK))
  (sL (sJ (sQ (en 0)))) sY)
  (sF (sP (i:=2) nk (uz (sW (sW (ux (uz (en 0) lK) lK) (ux (en 1) lK)) lK) lK))
  (sF (sP (i:=3) nk (uz (sW (sW (ux (en 2) (en 2)) (ux (en 1) lK)) (uz (en 0) lK)) lK))
  (sF (sP (i:=4) nk (uz (sW (sW (ux (en 3) (en 3)) (ux (en 2) lK)) lK) lK))
  (sL (sJ (sQ (sW (ux (sW (ux (en 2) lK) (en 3)) lK) (en 4))))))))))
theorem JG:FnScope ["script", "cells", "k", "cell"] ["script"] (defScope zw):=⟨rfl,rfl,rfl,by decide +kernel,rfl,by decide +kernel,by decide +kernel⟩
theorem Ln {f:Addr}{fd:FuncData} (F:Fun K "_law_pot" "_law_pot" zw f fd) (bb:mg "list"=none) (aS:mg "enumerate"=none):FnOk P w K mg base CX0 2 f fd ["script"] (spD K wB) :=
 tu (k:=1) (N:=["script", "cells", "k", "cell"]) F JG zC (λau A outer s H E B hr=>tq
  (sF (sJ (uw (i:=1) nk (AT rfl bb (f' (tX (en 0) t5 (tQ lK)) gx rfl))))
  (sF (tN never rfl (CD rfl aS (f' (tX (en 0) (tQ lK) (tQ lK)) gx rfl)) (um (m:=100) rfl (tE (gd_n (i:=2) (m:=100) nk) (tE (gd_n (i:=3) (m:=100) nk) ug)))
  (sL (sJ (wY (pv 1) (uz (en 2) lK) (sW (t8 (pv 1) (uz (en 2) lK)) (en 3))))))
  (sL (sJ (yP (sS (f' (en 1) (f' lK (f' lK gx rfl) rfl) rfl))))))))
theorem GU:FnScope ["pot", "upto", "at", "cell", "found"] ["pot", "upto"] (defScope zA):=⟨rfl,rfl,rfl,by decide +kernel,rfl,by decide +kernel,by decide +kernel⟩
theorem F2 {f:Addr}{fd:FuncData} (F:Fun K "_law_pick" "_law_pick" zA f fd) {lH' ld'} (qg:KI P w K mg base lH' ld') (ai:mg "len"=none):FnOk P w K mg base CX0 3 f fd ["pot", "upto"] (spD K tF) :=
 tu (k:=2) (N:=["pot", "upto", "at", "cell", "found"]) F GU An (λau A outer s H E B hr=>tq
  (sF (sX (uW (t8 (pv 0) lK) (en 1))
  (sF (sP (i:=2) nk (t8 (pv 0) lK))
  (sF (sP (i:=3) nk (ux lK (en 2)))
  (sF (sX (uW (en 2) (tK rfl ai (f' (t8 (pv 0) lK) gx rfl)))
  (sL (sP (i:=3) nk (sK (t8 (pv 0) lK) (en 2)))) (sL (sX (t7 hr (t8 (pv 0) lK) (sM (sS gx)))
  (sL (sP (i:=3) nk (uz (sK (t8 (pv 0) lK) (uz (sW (ux (en 2) lK) lK) (tK rfl ai (f' (t8 (pv 0) lK) gx rfl)))) (sW (wg lK lK) (ux lK (en 2)))))) sY)))
  (sF (sJ (wY (pv 0) lK (sW (en 2) lK)))
  (sL (sJ (wY (pv 0) lK (cqE qg hr (f' (en 3) (f' (en 2) gx rfl) rfl))))))))) sY)
  (sF (sP (i:=4) nk (uz (t8 (pv 0) lK) (en 1)))
  (sF (sJ (wY (pv 0) lK (JK (t8 (pv 0) lK) (en 1))))
  (sL (sJ (sQ (en 4))))))))
theorem Fj:FnScope ["pot", "fields", "low", "top", "pairs", "k", "one", "other"] ["pot", "fields", "low", "top"] (defScope yp):=⟨rfl,rfl,rfl,by decide +kernel,rfl,by decide +kernel,by decide +kernel⟩
theorem Mx {f:Addr}{fd:FuncData} (F:Fun K "_law_wish" "_law_wish" yp f fd) {aP' aK'} (aM:u0 P w K mg base aP' aK') (aE:mg "range"=none) (aD:mg "min"=none) (aV:mg "max"=none) (aq:mg "tuple"=none):FnOk P w K mg base CX0 4 f fd ["pot", "fields", "low", "top"] (spD K vA) :=
 tu (k:=3) (N:=["pot", "fields", "low", "top", "pairs", "k", "one", "other"]) F Fj zc (λau A outer s H E B hr=>tq
  (sF (sJ (uw (i:=4) nk (sS gx)))
  (sF (tN never rfl (wj rfl aE (f' (en 1) gx rfl)) (gd_n (i:=5) (m:=100) nk)
  (sF (sP (i:=6) nk (sW (en 2) (cqEB aM hr (pv 0) (f' (en 3) gx rfl))))
  (sF (sP (i:=7) nk (sW (en 2) (cqEB aM hr (pv 0) (f' (en 3) gx rfl))))
  (sL (sJ (uM (pv 4) (sU (f' (u5 rfl rfl aD (f' (en 6) (f' (en 7) gx rfl) rfl)) (f' (vY rfl rfl aV (f' (en 6) (f' (en 7) gx rfl) rfl)) gx rfl) rfl))))))))
  (sL (sJ (sQ (uS rfl aq (f' (en 4) gx rfl))))))))
theorem Ka:FnScope ["pot", "fields", "most", "top", "low", "found", "k", "way", "wish"] ["pot", "fields", "most"] (defScope Am):=⟨rfl,rfl,rfl,by decide +kernel,rfl,by decide +kernel,by decide +kernel⟩
theorem Md {f:Addr}{fd:FuncData} (F:Fun K "_law_wishes" "_law_wishes" Am f fd) {aP' aK'} (aM:u0 P w K mg base aP' aK') {c4' cy'} (g0:zk P w K mg base c4' cy') {le' jE'} (qh:Kw P w K mg base le' jE') (aD:mg "min"=none) (aE:mg "range"=none) (ai:mg "len"=none):FnOk P w K mg base CX0 5 f fd ["pot", "fields", "most"] (spD K xJ) :=
 tu (k:=4) (N:=["pot", "fields", "most", "top", "low", "found", "k", "way", "wish"]) F Ka zu (λau A outer s H E B hr=>tq
  (sF (sP (i:=3) nk (u5 rfl rfl aD (f' (sK (by with_reducible exact (sM (sS (KX.ad (.int (.int (.int (.int .nil)))))))) (cqEB aM hr (pv 0) (f' lK gx rfl))) (f' (by with_reducible exact (sK (sM (sS (KX.ad (.int (.int (.int (.int .nil))))))) (by with_unfolding_all exact (en 1)) (by with_unfolding_all exact λ_ _=>rfl))) gx rfl) rfl)))
  (sF (sP (i:=4) nk (cqEB aM hr (pv 0) (f' (ud lK (en 3)) gx rfl)))
  (sF (sJ (uw (i:=5) nk (sS gx)))
  (sF (tN never rfl (wj rfl aE (f' (cqEB aM hr (pv 0) (f' (sW (en 2) lK) gx rfl)) gx rfl)) (gd_n (i:=6) (m:=100) nk)
  (sF (sP (i:=7) nk (cqEB aM hr (pv 0) (f' lK gx rfl)))
  (sF (sP (i:=8) nk (cqEB g0 hr (pv 0) (f' (en 1) (f' (en 4) (f' (en 3) gx rfl) rfl) rfl)))
  (sF (sX (TW.td (yb (tH hr (en 7) lK) (xi (Bj hr (pv 5) (sM (sS gx))))))
  (sL (sP (i:=8) nk (t8 (pv 5) (cqEB aM hr (pv 0) (f' (AN rfl ai (pv 5)) gx rfl))))) sY)
  (sF (sX (TW.td (yb (tH hr (en 7) lK) (xi (Bj hr (pv 5) (sM (sS gx))))))
  (sL (sP (i:=8) nk (cqEB qh hr (pv 0) (f' (t8 (pv 5) (cqEB aM hr (pv 0) (f' (AN rfl ai (pv 5)) gx rfl))) gx rfl)))) sY)
  (sL (sJ (uM (pv 5) (en 8)))))))))
  (sL (sJ (sQ (en 5)))))))))
theorem Ma:FnScope ["pot", "wish", "at", "low", "high", "pair"] ["pot", "wish"] (defScope AG):=⟨rfl,rfl,rfl,by decide +kernel,rfl,by decide +kernel,by decide +kernel⟩
theorem GX {f:Addr}{fd:FuncData} (F:Fun K "_law_nudged" "_law_nudged" AG f fd) {aP' aK'} (aM:u0 P w K mg base aP' aK') (ai:mg "len"=none) (aV:mg "max"=none) (aD:mg "min"=none):FnOk P w K mg base CX0 4 f fd ["pot", "wish"] (spD K xn) :=
 tu (k:=3) (N:=["pot", "wish", "at", "low", "high", "pair"]) F Ma z6 (λau A outer s H E B hr=>tq
  (sF (sP (i:=2) nk (cqEB aM hr (pv 0) (f' (tK rfl ai (f' (en 1) gx rfl)) gx rfl)))
  (sF (sJ (yS (sK (en 1) (en 2)) (um (m:=100) rfl (tE (gd_n (i:=3) (m:=100) nk) (tE (gd_n (i:=4) (m:=100) nk) ug)))))
  (sF (sP (i:=5) nk (sM (sS (uP (sU (f' (vY rfl rfl aV (f' lK (f' (ud (en 3) lK) gx rfl) rfl)) (f' (en 4) gx rfl) rfl)) (sU (f' (en 3) (f' (u5 rfl rfl aD (f' lK (f' (sW (en 4) lK) gx rfl) rfl)) gx rfl) rfl)) (sU (f' (u5 rfl rfl aD (f' (sW (en 3) lK) (f' (en 4) gx rfl) rfl)) (f' (en 4) gx rfl) rfl)) (sU (f' (en 3) (f' (vY rfl rfl aV (f' (en 3) (f' (ud (en 4) lK) gx rfl) rfl)) gx rfl) rfl)) gx rfl rfl rfl rfl))))
  (sL (sJ (sQ (sW (sW (tX (en 1) t5 (tQ (en 2))) (sU (f' (sK (en 5) (cqEB aM hr (pv 0) (f' lK gx rfl))) gx rfl))) (tX (en 1) (tQ (sW (en 2) lK)) t5)))))))))
theorem GF:FnScope ["wish", "letter"] ["wish", "letter"] (defScope yX):=⟨rfl,rfl,rfl,by decide +kernel,rfl,by decide +kernel,by decide +kernel⟩
theorem K3 {f:Addr}{fd:FuncData} (F:Fun K "_law_has" "_law_has" yX f fd) (aC:mg "zip"=none):FnOk P w K mg base CX0 2 f fd ["wish", "letter"] (spD K uB) :=
 tu (k:=1) (N:=["wish", "letter"]) F GF ze (λau A outer s H E B hr=>tq
  (sL (sJ (sQ (xu hr (sM (tR (N':=["number", "pair", "-wish", "-letter"]) (m:=2) (CompScope.of (by kernel_rfl)) rfl (u7 rfl aC (f' (en 1) (f' (en 0) gx rfl) rfl)) (λ_ _ _ _=>(um (m:=2) rfl (tE (gd_n (i:=0) (m:=2) nk) (tE (gd_n (i:=1) (m:=2) nk) ug)))) (λ_ _ _ _=>(uu (TW.td (uH (uW (en 0) (sK (en 1) lK)) (vh (yE (en 0) (sK (en 1) lK))))))) (λ_ _ _ _=>lK))) (sM (sS gx)))))))
theorem JR:FnScope ["wish", "found", "low", "high", "longer", "letter"] ["wish"] (defScope yD):=⟨rfl,rfl,rfl,by decide +kernel,rfl,by decide +kernel,by decide +kernel⟩
theorem Fe {f:Addr}{fd:FuncData} (F:Fun K "_law_letters" "_law_letters" yD f fd) (aE:mg "range"=none):FnOk P w K mg base CX0 2 f fd ["wish"] (spD K xR) :=
 tu (k:=1) (N:=["wish", "found", "low", "high", "longer", "letter"]) F JR zl (λau A outer s H E B hr=>tq
  (sF (sP (i:=1) nk (sM (sS (f' (sU gx) gx rfl))))
  (sF (tN never rfl (tv (en 0)) (um (m:=100) rfl (tE (gd_n (i:=2) (m:=100) nk) (tE (gd_n (i:=3) (m:=100) nk) ug)))
  (sF (sJ (uw (i:=4) nk (sS gx)))
  (sF (tN never rfl (tv (en 1)) (gd_n (i:=5) (m:=100) nk)
  (sL (sJ (BG (pv 4) (sM (tR (N':=["number", "-wish", "-found", "-low", "-high", "-longer", "letter"]) (m:=1) (CompScope.of (by kernel_rfl)) rfl (FB rfl aE (f' (en 2) (f' (sW (en 3) lK) gx rfl) rfl)) (λ_ _ _ _=>(gd_n (i:=0) (m:=1) nk)) (λ_ _ _ _=>ub) (λ_ _ _ _=>(sW (en 6) (sU (f' (en 0) gx rfl))))))))))
  (sL (sP (i:=1) nk (en 4))))))
  (sL (sJ (sQ (en 1)))))))
theorem FY:FnScope ["one", "other", "first", "last"] ["one", "other"] (defScope zR):=⟨rfl,rfl,rfl,by decide +kernel,rfl,by decide +kernel,by decide +kernel⟩
theorem IM {f:Addr}{fd:FuncData} (F:Fun K "_law_covers" "_law_covers" zR f fd) {bF' bm'} (bW:wH P w K mg base bF' bm') (aq:mg "tuple"=none):FnOk P w K mg base CX0 3 f fd ["one", "other"] (spD K xZ) :=
 tu (k:=2) (N:=["one", "other", "first", "last"]) F FY Ag (λau A outer s H E B hr=>tq
  (sF (sP (i:=2) nk (uS rfl aq (f' (sM (tR (N':=["pair", "-one", "-other", "-first", "-last"]) (m:=1) (CompScope.of (by kernel_rfl)) rfl (tv (en 1)) (λ_ _ _ _=>(gd_n (i:=0) (m:=1) nk)) (λ_ _ _ _=>ub) (λ_ _ _ _=>(sK (en 0) lK)))) gx rfl)))
  (sF (sP (i:=3) nk (uS rfl aq (f' (sM (tR (N':=["pair", "-one", "-other", "-first", "-last"]) (m:=1) (CompScope.of (by kernel_rfl)) rfl (tv (en 1)) (λ_ _ _ _=>(gd_n (i:=0) (m:=1) nk)) (λ_ _ _ _=>ub) (λ_ _ _ _=>(sK (en 0) lK)))) gx rfl)))
  (sL (sJ (sQ (xf (cqE bW hr (f' (en 0) (f' (en 2) gx rfl) rfl)) (xt (cqE bW hr (f' (en 0) (f' (en 3) gx rfl) rfl))))))))))
theorem JX:FnScope ["wishes", "found", "wish", "over"] ["wishes"] (defScope yY):=⟨rfl,rfl,rfl,by decide +kernel,rfl,by decide +kernel,by decide +kernel⟩
theorem JO {f:Addr}{fd:FuncData} (F:Fun K "_law_roof" "_law_roof" yY f fd) {lg' jF'} (qi:LC P w K mg base lg' jF') (ay:mg "sorted"=none):FnOk P w K mg base CX0 4 f fd ["wishes"] (spD K wI) :=
 tu (k:=3) (N:=["wishes", "found", "wish", "over"]) F JX za (λau A outer s H E B hr=>tq
  (sF (sJ (uw (i:=1) nk (sS gx)))
  (sF (tN never rfl (tv (sM (yN hr rfl ay (f' (en 0) gx rfl)))) (gd_n (i:=2) (m:=100) nk)
  (sF (sJ (vD (i:=3) (N':=["one", "-wishes", "-found", "wish", "-over"]) (m:=1) (CompScope.of (by kernel_rfl)) rfl nk (tv (en 0)) (λ_ _ _ _=>(gd_n (i:=0) (m:=1) nk)) (λ_ _ _ _=>(uu (TW.td (yb (t7 hr (en 0) (en 3)) (xi (uF (cqE qi hr (f' (en 0) (f' (en 3) gx rfl) rfl)))))))) (λ_ _ _ _=>(en 0))))
  (sL (sX (TW.td (yb (tH hr (en 3) (sM (sS gx))) (xi (LS hr (en 2) (pv 1)))))
  (sL (sJ (uM (pv 1) (en 2)))) sY))))
  (sL (sJ (sQ (en 1)))))))
theorem FC:FnScope ["wishes", "some", "letter"] ["wishes", "some", "letter"] (defScope zm):=⟨rfl,rfl,rfl,by decide +kernel,rfl,by decide +kernel,by decide +kernel⟩
theorem Jc {f:Addr}{fd:FuncData} (F:Fun K "_law_lacks" "_law_lacks" zm f fd) {bF' bm'} (bW:wH P w K mg base bF' bm'):FnOk P w K mg base CX0 3 f fd ["wishes", "some", "letter"] (spD K xL) :=
 tu (k:=2) (N:=["wishes", "some", "letter"]) F FC zf (λau A outer s H E B hr=>tq
  (sF (sX (tH hr (sM (tR (N':=["wish", "-wishes", "-some", "letter"]) (m:=1) (CompScope.of (by kernel_rfl)) rfl (tv (en 0)) (λ_ _ _ _=>(gd_n (i:=0) (m:=1) nk)) (λ_ _ _ _=>(uu (uF (cqE bW hr (f' (en 0) (f' (en 3) gx rfl) rfl))))) (λ_ _ _ _=>lK))) (sM (sS gx)))
  (sL (sJ (sQ uk))) sY)
  (sL (sJ (sQ (xu hr (sM (tR (N':=["wish", "-wishes", "-some", "letter"]) (m:=1) (CompScope.of (by kernel_rfl)) rfl (tv (en 1)) (λ_ _ _ _=>(gd_n (i:=0) (m:=1) nk)) (λ_ _ _ _=>(uu (uF (cqE bW hr (f' (en 0) (f' (en 3) gx rfl) rfl))))) (λ_ _ _ _=>lK))) (sM (sS gx))))))))
theorem FR:FnScope ["wishes", "some", "choices", "tree", "there", "wish", "inner"] ["wishes", "some", "choices", "tree"] (defScope xg):=⟨rfl,rfl,rfl,by decide +kernel,rfl,by decide +kernel,by decide +kernel⟩
theorem K5 {g:List R->Option (R×List R)}{kk:Nat} (hk:4<=kk){f:Addr}{fd:FuncData} (F:Fun K "_law_is_shown" "_law_is_shown" xg f fd) (G:FnOk P w K mg base CX0 kk f fd ["wishes", "some", "choices", "tree"] (spD K g)) {eJ' ek'} (fh:DF P w K mg base eJ' ek') {bF' bm'} (bW:wH P w K mg base bF' bm') (ai:mg "len"=none) (aC:mg "zip"=none) (i4:Binds K fd ["wishes", "some", "choices", "tree"] []) (i5:keepIn K (.ref f)=true) (i6:mg "_law_is_shown"=some (.ref f)):FnOk P w K mg base CX0 (kk+1) f fd ["wishes", "some", "choices", "tree"] (spD K (fnD 7 4 (wb g))) :=
 tu (N:=["wishes", "some", "choices", "tree", "there", "wish", "inner"]) F FR (wb g) (λau A outer s H E B hr=>tq
  (sF (sX (Ay (uF (t6 fh.G (hr.mono (le_trans (by decide) hk)) rfl fh.m fh.p fh.b (f' (en 0) (f' (en 1) (f' (sK (en 3) lK) gx rfl) rfl) rfl))))
  (sL (sJ (sQ uk))) sY)
  (sF (sX (tH hr (sK (en 3) lK) tw)
  (sL (sJ (sQ (xu hr (en 2) lK)))) sY)
  (sF (sJ (vD (i:=4) (N':=["wish", "-wishes", "-some", "-choices", "tree", "-there", "-wish", "-inner"]) (m:=1) (CompScope.of (by kernel_rfl)) rfl nk (tv (en 0)) (λ_ _ _ _=>(gd_n (i:=0) (m:=1) nk)) (λ_ _ _ _=>(uu (uF (t6 bW.G (hr.mono (le_trans (by decide) hk)) rfl bW.m bW.p bW.b (f' (en 0) (f' (sK (en 4) lK) gx rfl) rfl))))) (λ_ _ _ _=>(en 0))))
  (sF (sX (TW.td (uH (uW (en 2) lK) (vh (t7 hr (tK rfl ai (f' (sK (en 3) lK) gx rfl)) (tK rfl ai (f' (en 4) gx rfl))))))
  (sL (sJ (sQ uk))) sY)
  (sF (tN never rfl (u7 rfl aC (f' (en 4) (f' (sK (en 3) lK) gx rfl) rfl)) (um (m:=100) rfl (tE (gd_n (i:=5) (m:=100) nk) (tE (gd_n (i:=6) (m:=100) nk) ug)))
  (sL (sX (Ay (uF (t6 G hr rfl i6 i5 i4 (uP (en 0) (sM (tW (en 1) (sM (sS (f' (en 5) gx rfl))))) (ud (en 2) lK) (en 6) gx rfl rfl rfl rfl))))
  (sL (sJ (sQ uk))) sY)))
  (sL (sJ (sQ uk)))))))))
theorem CY {f:Addr}{fd:FuncData} (F:Fun K "_law_is_shown" "_law_is_shown" xg f fd) {eJ' ek'} (fh:DF P w K mg base eJ' ek') {bF' bm'} (bW:wH P w K mg base bF' bm') (ai:mg "len"=none) (aC:mg "zip"=none) (i4:Binds K fd ["wishes", "some", "choices", "tree"] []) (i5:keepIn K (.ref f)=true) (i6:mg "_law_is_shown"=some (.ref f)):∀ n:Nat,FnOk P w K mg base CX0 (5+n) f fd ["wishes", "some", "choices", "tree"] (spD K (ue n))
 | 0=>vx
 | n+1=>K5 (le_trans (by decide) (le_add_right _ n)) F (CY F fh bW ai aC i4 i5 i6 n) fh bW ai aC i4 i5 i6
theorem Gv:FnScope ["wishes", "thing", "number", "some", "tree", "top", "wish", "letter"] ["wishes", "thing"] (defScope zF):=⟨rfl,rfl,rfl,by decide +kernel,rfl,by decide +kernel,by decide +kernel⟩
theorem Jo {f:Addr}{fd:FuncData} (F:Fun K "_law_due" "_law_due" zF f fd) {np' lJ'} (qj:Kt P w K mg base np' lJ') {jG' iF'} (qk:Hu P w K mg base jG' iF') {bF' bm'} (bW:wH P w K mg base bF' bm') {iG' h3'} (ql:Ho P w K mg base iG' h3') (ay:mg "sorted"=none) (cA:mg "set"=none) (ai:mg "len"=none):FnOk P w K mg base CX0 26 f fd ["wishes", "thing"] (spD K v3) :=
 tu (k:=25) (N:=["wishes", "thing", "number", "some", "tree", "top", "wish", "letter"]) F Gv zv (λau A outer s H E B hr=>tq
  (sF (sJ (yS (en 1) (um (m:=100) rfl (tE (gd_n (i:=2) (m:=100) nk) (tE (gd_n (i:=3) (m:=100) nk) (tE (gd_n (i:=4) (m:=100) nk) ug))))))
  (sF (sP (i:=5) nk (cqE qj hr (f' (en 0) gx rfl)))
  (sF (sX (TW.td (uH (t7 hr (en 2) (tK rfl ai (f' (en 3) gx rfl))) (uH (t7 hr (en 3) (sM (Eo hr rfl ay rfl cA (f' (en 3) gx rfl)))) (vh (t7 hr (sM (tR (N':=["wish", "-wishes", "-thing", "-number", "-some", "-tree", "top", "-wish", "-letter"]) (m:=1) (CompScope.of (by kernel_rfl)) rfl (tv (en 3)) (λ_ _ _ _=>(gd_n (i:=0) (m:=1) nk)) (λ_ _ _ _=>(uu (G9 hr (en 0) (en 6)))) (λ_ _ _ _=>lK))) (sM (sS gx)))))))
  (sL (sJ (sQ uk))) sY)
  (sF (tN never rfl (tv (en 5)) (gd_n (i:=6) (m:=100) nk)
  (sL (tN never rfl (tv (cqE qk hr (f' (en 6) gx rfl))) (gd_n (i:=7) (m:=100) nk)
  (sL (sX (tH hr (sM (tR (N':=["one", "-wishes", "-thing", "-number", "-some", "-tree", "-top", "-wish", "letter"]) (m:=1) (CompScope.of (by kernel_rfl)) rfl (tv (en 3)) (λ_ _ _ _=>(gd_n (i:=0) (m:=1) nk)) (λ_ _ _ _=>(uu (uF (cqE bW hr (f' (en 0) (f' (en 8) gx rfl) rfl))))) (λ_ _ _ _=>lK))) (sM (sS gx)))
  (sL (sJ (sQ uk))) sY)))))
  (sL (sJ (sQ (cqE ql hr (uP (en 5) (sM (sS gx)) (ud (en 2) lK) (en 4) gx rfl rfl rfl rfl))))))))))
theorem Le:FnScope ["pot", "wishes", "wish", "far"] ["pot", "wishes"] (defScope Ah):=⟨rfl,rfl,rfl,by decide +kernel,rfl,by decide +kernel,by decide +kernel⟩
theorem Ge {f:Addr}{fd:FuncData} (F:Fun K "_law_letter" "_law_letter" Ah f fd) {aP' aK'} (aM:u0 P w K mg base aP' aK') (ai:mg "len"=none) (aq:mg "tuple"=none):FnOk P w K mg base CX0 4 f fd ["pot", "wishes"] (spD K wl) :=
 tu (k:=3) (N:=["pot", "wishes", "wish", "far"]) F Le y8 (λau A outer s H E B hr=>tq
  (sF (sP (i:=2) nk (sK (en 1) (cqEB aM hr (pv 0) (f' (tK rfl ai (f' (en 1) gx rfl)) gx rfl))))
  (sF (sP (i:=3) nk (cqEB aM hr (pv 0) (f' lK gx rfl)))
  (sL (sJ (sQ (uS rfl aq (f' (sM (tR (N':=["pair", "pot", "-wishes", "-wish", "far"]) (m:=1) (CompScope.of (by kernel_rfl)) rfl (tv (en 2)) (λ_ _ _ _=>(gd_n (i:=0) (m:=1) nk)) (λ_ _ _ _=>ub) (λ_ _ _ _=>(sK (sM (sS (f' (sW (sK (en 0) lK) (cqEB aM hr (pv 1) (f' (sW (ud (sK (en 0) lK) (sK (en 0) lK)) lK) gx rfl))) (f' (cqEB aM hr (pv 1) (f' lK gx rfl)) gx rfl) rfl))) (en 4))))) gx rfl))))))))
theorem LF:FnScope ["pot", "wishes", "tree", "way", "letter", "inner", "at", "some"] ["pot", "wishes", "tree"] (defScope xE):=⟨rfl,rfl,rfl,by decide +kernel,rfl,by decide +kernel,by decide +kernel⟩
theorem E8 {g:List R->Option (R×List R)}{kk:Nat} (hk:5<=kk){f:Addr}{fd:FuncData} (F:Fun K "_law_bent_tree" "_law_bent_tree" xE f fd) (G:FnOk P w K mg base CX0 kk f fd ["pot", "wishes", "tree"] (spD K g)) {aP' aK'} (aM:u0 P w K mg base aP' aK') {ch' bW'} (dL:zW P w K mg base ch' bW') (ai:mg "len"=none) (i7:Binds K fd ["pot", "wishes", "tree"] []) (i8:keepIn K (.ref f)=true) (i9:mg "_law_bent_tree"=some (.ref f)):FnOk P w K mg base CX0 (kk+1) f fd ["pot", "wishes", "tree"] (spD K (fnD 8 3 (v9 g))) :=
 tu (N:=["pot", "wishes", "tree", "way", "letter", "inner", "at", "some"]) F LF (v9 g) (λau A outer s H E B hr=>tq
  (sF (sP (i:=3) nk (we aM.G (hr.mono (le_trans (by decide) hk)) rfl aM.m aM.p aM.b (pv 0) (f' lK gx rfl)))
  (sF (sP (i:=4) nk (we dL.G (hr.mono (le_trans (by decide) hk)) rfl dL.m dL.p dL.b (pv 0) (f' (en 1) gx rfl)))
  (sF (sX (tH hr (sK (en 2) lK) tw)
  (sL (sJ (sQ (sK (sM (sS (uP (sU (f' tw (f' (en 4) gx rfl) rfl)) (sU (f' tw (f' (sK (en 2) lK) (f' (sM (sS gx)) gx rfl) rfl) rfl)) (sU (f' tw (f' (en 4) (f' (sM (sS (f' (en 2) gx rfl))) gx rfl) rfl) rfl)) (sU (f' tw (f' (en 4) gx rfl) rfl)) gx rfl rfl rfl rfl))) (uz (en 3) lK))))) sY)
  (sF (sP (i:=5) nk (sK (en 2) lK))
  (sF (sX (tH hr (en 5) (sM (sS gx)))
  (sL (sJ (sQ (sU (f' tw (f' (en 4) gx rfl) rfl))))) sY)
  (sF (sP (i:=6) nk (we aM.G (hr.mono (le_trans (by decide) hk)) rfl aM.m aM.p aM.b (pv 0) (f' (tK rfl ai (f' (en 5) gx rfl)) gx rfl)))
  (sF (sX (uW (en 3) lK)
  (sL (sJ (sQ (sU (f' tw (f' (sK (en 2) lK) (f' (sM (tW (sM (tW (tX (en 5) t5 (tQ (en 6))) (sM (sS (f' (we G hr rfl i9 i8 i7 (pv 0) (f' (en 1) (f' (sK (en 5) (en 6)) gx rfl) rfl)) gx rfl))))) (tX (en 5) (tQ (sW (en 6) lK)) t5))) gx rfl) rfl) rfl))))) sY)
  (sF (sP (i:=7) nk (sM (sS (f' (sM (tW (tX (en 5) t5 (tQ (en 6))) (tX (en 5) (tQ (sW (en 6) lK)) t5))) (f' (sM (tW (en 5) (tX (en 5) (tQ (en 6)) (tQ (sW (en 6) lK))))) (f' (sM (BR (en 5) (xK lK))) gx rfl) rfl) rfl))))
  (sF (sX (uW (en 3) lK)
  (sL (sJ (sQ (sU (f' tw (f' (sK (en 2) lK) (f' (sK (en 7) (ud (en 3) lK)) gx rfl) rfl) rfl))))) sY)
  (sL (sJ (sQ (sK (sM (sS (f' (sU (f' tw (f' (en 4) (f' (en 5) gx rfl) rfl) rfl)) (f' (sU (f' tw (f' (sK (en 2) lK) gx rfl) rfl)) gx rfl) rfl))) (ud (en 3) lK)))))))))))))))
theorem Do {f:Addr}{fd:FuncData} (F:Fun K "_law_bent_tree" "_law_bent_tree" xE f fd) {aP' aK'} (aM:u0 P w K mg base aP' aK') {ch' bW'} (dL:zW P w K mg base ch' bW') (ai:mg "len"=none) (i7:Binds K fd ["pot", "wishes", "tree"] []) (i8:keepIn K (.ref f)=true) (i9:mg "_law_bent_tree"=some (.ref f)):∀ n:Nat,FnOk P w K mg base CX0 (6+n) f fd ["pot", "wishes", "tree"] (spD K (u3 n))
 | 0=>vx
 | n+1=>E8 (le_trans (by decide) (le_add_right _ n)) F (Do F aM dL ai i7 i8 i9 n) aM dL ai i7 i8 i9
theorem Jd:FnScope ["pot", "wishes", "thing", "number", "some", "tree", "way", "at", "wish", "pairs", "fields"] ["pot", "wishes", "thing"] (defScope Ai):=⟨rfl,rfl,rfl,by decide +kernel,rfl,by decide +kernel,by decide +kernel⟩
theorem GS {f:Addr}{fd:FuncData} (F:Fun K "_law_bent" "_law_bent" Ai f fd) {aP' aK'} (aM:u0 P w K mg base aP' aK') {c4' cy'} (g0:zk P w K mg base c4' cy') {h4' g8'} (qm:KR P w K mg base h4' g8') (ai:mg "len"=none) (aC:mg "zip"=none) (aD:mg "min"=none) (aV:mg "max"=none) (aq:mg "tuple"=none) (ay:mg "sorted"=none):FnOk P w K mg base CX0 27 f fd ["pot", "wishes", "thing"] (spD K xV) :=
 tu (k:=26) (N:=["pot", "wishes", "thing", "number", "some", "tree", "way", "at", "wish", "pairs", "fields"]) F Jd zV (λau A outer s H E B hr=>tq
  (sF (sJ (yS (en 2) (um (m:=100) rfl (tE (gd_n (i:=3) (m:=100) nk) (tE (gd_n (i:=4) (m:=100) nk) (tE (gd_n (i:=5) (m:=100) nk) ug))))))
  (sF (sP (i:=6) nk (cqEB aM hr (pv 0) (f' lK gx rfl)))
  (sF (sP (i:=7) nk (cqEB aM hr (pv 0) (f' (sW (tK rfl ai (f' (en 4) gx rfl)) lK) gx rfl)))
  (sF (sP (i:=8) nk (sK (en 1) (cqEB aM hr (pv 0) (f' (tK rfl ai (f' (en 1) gx rfl)) gx rfl))))
  (sF (sJ (vD (i:=9) (N':=["a", "b", "-pot", "-wishes", "-thing", "-number", "-some", "-tree", "-way", "-at", "-wish", "-pairs", "-fields"]) (m:=2) (CompScope.of (by kernel_rfl)) rfl nk (u7 rfl aC (f' (en 8) (f' (sK (en 1) lK) gx rfl) rfl)) (λ_ _ _ _=>(um (m:=2) rfl (tE (gd_n (i:=0) (m:=2) nk) (tE (gd_n (i:=1) (m:=2) nk) ug)))) (λ_ _ _ _=>ub) (λ_ _ _ _=>(sU (f' (u5 rfl rfl aD (f' (sK (en 0) lK) (f' (sK (en 1) lK) gx rfl) rfl)) (f' (vY rfl rfl aV (f' (sK (en 0) lK) (f' (sK (en 1) lK) gx rfl) rfl)) gx rfl) rfl)))))
  (sF (sP (i:=10) nk (tK rfl ai (f' (en 8) gx rfl)))
  (sF (sP (i:=8) nk (sK (sM (sS (uP (en 8) (en 8) (uS rfl aq (f' (en 9) gx rfl)) (cqEB g0 hr (pv 0) (f' (en 10) (f' lK (f' lK gx rfl) rfl) rfl)) gx rfl rfl rfl rfl))) (cqEB aM hr (pv 0) (f' lK gx rfl))))
  (sF (sX (tH hr (en 6) lK)
  (sL (sJ (sQ (sU (f' (sW (en 3) (sK (sM (sS (uP lK (xK lK) lK (wg lK lK) (f' (ud lK (wg lK lK)) gx rfl) rfl rfl rfl rfl))) (cqEB aM hr (pv 0) (f' lK gx rfl)))) (f' (en 4) (f' (en 5) gx rfl) rfl) rfl))))) sY)
  (sF (sX (tH hr (en 6) lK)
  (sL (sJ (sQ (sU (f' (en 3) (f' (sM (tW (sM (tW (tX (en 4) t5 (tQ (en 7))) (sM (sS (f' (en 8) gx rfl))))) (tX (en 4) (tQ (en 7)) t5))) (f' (en 5) gx rfl) rfl) rfl))))) sY)
  (sF (sX (tH hr (en 6) lK)
  (sL (sJ (sQ (sU (f' (ud (en 3) lK) (f' (sM (tW (tX (en 4) t5 (tQ (en 7))) (tX (en 4) (tQ (sW (en 7) lK)) t5))) (f' (en 5) gx rfl) rfl) rfl))))) sY)
  (sF (sX (tH hr (en 6) lK)
  (sL (sJ (sQ (sU (f' (en 3) (f' (sM (tW (sM (tW (tX (en 4) t5 (tQ (en 7))) (sM (sS (f' (en 8) gx rfl))))) (tX (en 4) (tQ (sW (en 7) lK)) t5))) (f' (en 5) gx rfl) rfl) rfl))))) sY)
  (sF (sX (tH hr (en 6) lK)
  (sL (sJ (sQ (sU (f' (sW (en 3) lK) (f' (sM (yN hr rfl ay (f' (sM (tW (en 4) (sM (sS (f' (en 8) gx rfl))))) gx rfl))) (f' (en 5) gx rfl) rfl) rfl))))) sY)
  (sF (sX (tH hr (en 6) lK)
  (sL (sJ (sQ (sU (f' (en 3) (f' (sM (BR (en 4) (xK lK))) (f' (en 5) gx rfl) rfl) rfl))))) sY)
  (sL (sJ (sQ (sU (f' (en 3) (f' (en 4) (f' (cqEB qm hr (pv 0) (f' (en 1) (f' (en 5) gx rfl) rfl)) gx rfl) rfl) rfl)))))))))))))))))))
theorem IS:FnScope ["script", "pot", "turn", "fields", "some", "things", "hull", "k", "letter", "more", "thing", "shown", "due", "handed", "found"] ["script"] (defScope yn):=⟨rfl,rfl,rfl,by decide +kernel,rfl,by decide +kernel,by decide +kernel⟩
theorem Kc {f:Addr}{fd:FuncData} (F:Fun K "law" "law" yn f fd) {pe' nr'} (qo:Fb P w K mg base pe' nr') {aP' aK'} (aM:u0 P w K mg base aP' aK') {li' jI'} (qp:JJ P w K mg base li' jI') {c4' cy'} (g0:zk P w K mg base c4' cy') {lK' lk'} (qq:Gn P w K mg base lK' lk') {ch' bW'} (dL:zW P w K mg base ch' bW') {ns' lM'} (qt:HC P w K mg base ns' lM') {pg' nu'} (qu:F1 P w K mg base pg' nu') {lN' ll'} (nq:EW P w K mg base lN' ll') (aE:mg "range"=none) (bb:mg "list"=none) (aD:mg "min"=none) (aV:mg "max"=none) (aq:mg "tuple"=none) (ai:mg "len"=none) (fj:mg "int"=none) (bR:mg "repr"=none):FnOk P w K mg base CX0 65 f fd ["script"] (spD K vf) :=
 tu (k:=64) (N:=["script", "pot", "turn", "fields", "some", "things", "hull", "k", "letter", "more", "thing", "shown", "due", "handed", "found"]) F IS yO (λau A outer s H E B hr=>tq
  (sF (sJ (uw (i:=1) nk (cqO qo hr (f' (en 0) gx rfl))))
  (sF (tN never rfl (wj rfl aE (f' lK gx rfl)) (gd_n (i:=2) (m:=100) nk)
  (sF (sP (i:=3) nk (sW lK (cqEB aM hr (pv 1) (f' lK gx rfl))))
  (sF (sP (i:=4) nk (sM (tW (cqEB qp hr (pv 1) (f' (en 3) (f' lK gx rfl) rfl)) (sM (sS (f' (cqEB g0 hr (pv 1) (f' (en 3) (f' (cqEB aM hr (pv 1) (f' lK gx rfl)) (f' (by with_reducible exact (sK (sM (sS (KX.ad (.int (.int (.int (.int .nil))))))) (by with_unfolding_all exact (en 3)) (by with_unfolding_all exact λ_ _=>rfl))) gx rfl) rfl) rfl)) gx rfl))))))
  (sF (sJ (uw (i:=5) nk (sS (f' (cqE qq hr (f' (sM (AT rfl bb (f' (en 4) gx rfl))) gx rfl)) gx rfl))))
  (sF (sJ (uw (i:=6) nk (sS gx)))
  (sF (tN never rfl (wj rfl aE (f' (en 3) gx rfl)) (gd_n (i:=7) (m:=100) nk)
  (sL (sJ (uM (pv 6) (sU (f' (IJ rfl rfl aD (f' (sM (tR (N':=["wish", "-script", "-pot", "-turn", "-fields", "-some", "-things", "-hull", "k", "-letter", "-more", "-thing", "-shown", "-due", "-handed", "-found"]) (m:=1) (CompScope.of (by kernel_rfl)) rfl (tv (en 4)) (λ_ _ _ _=>(gd_n (i:=0) (m:=1) nk)) (λ_ _ _ _=>ub) (λ_ _ _ _=>(sK (sK (en 0) (en 8)) lK)))) gx rfl)) (f' (Jr rfl rfl aV (f' (sM (tR (N':=["wish", "-script", "-pot", "-turn", "-fields", "-some", "-things", "-hull", "k", "-letter", "-more", "-thing", "-shown", "-due", "-handed", "-found"]) (m:=1) (CompScope.of (by kernel_rfl)) rfl (tv (en 4)) (λ_ _ _ _=>(gd_n (i:=0) (m:=1) nk)) (λ_ _ _ _=>ub) (λ_ _ _ _=>(sK (sK (en 0) (en 8)) lK)))) gx rfl)) gx rfl) rfl))))))
  (sF (sP (i:=8) nk (cqEB dL hr (pv 1) (f' (en 4) gx rfl)))
  (sF (sP (i:=9) nk (sM (sS (f' (sU (f' lK (f' (sM (sS (f' (uS rfl aq (f' (en 6) gx rfl)) gx rfl))) (f' (sU (f' tw (f' (en 8) gx rfl) rfl)) gx rfl) rfl) rfl)) (f' (sW (tX (t8 (pv 5) lK) t5 (tQ lK)) (sU (f' (sU (f' tw (f' (en 8) (f' (sM (sS gx)) gx rfl) rfl) rfl)) gx rfl))) gx rfl) rfl))))
  (sF (tN never rfl (wj rfl aE (f' lK gx rfl)) (gd_n (i:=7) (m:=100) nk)
  (sL (sJ (uM (pv 5) (cqEB qt hr (pv 1) (f' (en 4) (f' (t8 (pv 5) (ux (cqEB aM hr (pv 1) (f' (u5 rfl rfl aD (f' lK (f' (AN rfl ai (pv 5)) gx rfl) rfl)) gx rfl)) (EU rfl fj (f' (Fn (tK rfl ai (f' (en 4) gx rfl)) lK) gx rfl)))) gx rfl) rfl))))))
  (sL (tN never rfl (tv (sM (tW (en 5) (en 9)))) (gd_n (i:=10) (m:=100) nk)
  (sF (sP (i:=11) nk (xN hr rfl bR (f' (en 10) gx rfl)))
  (sF (sP (i:=12) nk (cqE qu hr (f' (en 4) (f' (en 10) gx rfl) rfl)))
  (sF (sP (i:=13) nk (sM (AT rfl bb (f' (en 4) gx rfl))))
  (sF (sP (i:=14) nk (cqE nq hr (f' (en 13) (f' (en 10) gx rfl) rfl)))
  (sL (sX (TW.td (uH (t7 hr (xN hr rfl bR (f' (en 14) gx rfl)) (xN hr rfl bR (f' (en 12) gx rfl))) (uH (t7 hr (xN hr rfl bR (f' (en 10) gx rfl)) (en 11)) (vh (t7 hr (en 13) (en 4))))))
  (sL (sJ (sQ uk))) sY)))))))))))))))))
  (sL (sJ (sQ (Ks (cqE nq hr (f' (sM (sS (f' (sU (f' (sU (f' lK (f' lK gx rfl) rfl)) gx rfl)) gx rfl))) (f' (sU (f' lK (f' (sM (sS gx)) (f' (sU (f' tw (f' (sU (f' lK gx rfl)) gx rfl) rfl)) gx rfl) rfl) rfl)) gx rfl) rfl)) uk)))))))
end
structure Dn (K:PySem.W.Frag) (mg:Str->Option Value) (x:Str) (st:Stmt) (f:Addr) (fd:FuncData):Prop where
 F:Fun K x x st f fd
 m:mg x=some (.ref f)
 a:nsIn K mainGlobals x=some (some (.ref f))
theorem dn {K:PySem.W.Frag}{h:Heap}{mg:Str->Option Value}{x:Str}{st:Stmt}{f:Addr}{od an:Option Addr}{sl:Array (Option Value)}{oc kV dc pm cd ct:Value} (X:K.In h) (G:h.Ns mainGlobals mg) (a:nsIn K mainGlobals x=some (some (.ref f))) (l:K.lookup f=some ⟨oc,od,.func (fnOf x x (defArgs st) (defBody st) (defScope st) .none kV dc pm an cd ct),sl⟩) (c:codeIn K cd x=true) (k:keepIn K (.ref f)=true):Dn K mg x st f (fnOf x x (defArgs st) (defBody st) (defScope st) .none kV dc pm an cd ct):=⟨K0 l c k,PySem.W.mg_of X G a,a⟩
section
variable {P:Program}{w:World}{K:PySem.W.Frag}{mg:Str->Option Value}{base:Heap}{x:Str}{st:Stmt}{f:Addr}{fd:FuncData}{k:Nat}{g:List R->Option (R×List R)}
theorem lenOf1 {α:Type}{us:List α} (h:us.length=1):∃ a,us=[a]:=by
 obtain ⟨a,us,rfl⟩:=List.exists_cons_of_length_eq_add_one h
 exact ⟨a,by rw [length_eq_zero_iff.mp (Nat.succ.inj h)]⟩
theorem lenOf2 {α:Type}{us:List α} (h:us.length=2):∃ a b,us=[a,b]:=by
 obtain ⟨a,us,rfl⟩:=List.exists_cons_of_length_eq_add_one h
 obtain ⟨b,rfl⟩:=lenOf1 (Nat.succ.inj h)
 exact ⟨a,b,rfl⟩
theorem lenOf3 {α:Type}{us:List α} (h:us.length=3):∃ a b c,us=[a,b,c]:=by
 obtain ⟨a,us,rfl⟩:=List.exists_cons_of_length_eq_add_one h
 obtain ⟨b,c,rfl⟩:=lenOf2 (Nat.succ.inj h)
 exact ⟨a,b,c,rfl⟩
theorem lenOf4 {α:Type}{us:List α} (h:us.length=4):∃ a b c d,us=[a,b,c,d]:=by
 obtain ⟨a,us,rfl⟩:=List.exists_cons_of_length_eq_add_one h
 obtain ⟨b,c,d,rfl⟩:=lenOf3 (Nat.succ.inj h)
 exact ⟨a,b,c,d,rfl⟩
theorem Dn.b1 {p:Str} (D:Dn K mg x st f fd) (h:∀ (kV dc pm:Value) (an:Option Addr) (cd ct a:Value),bindArgs (fnOf x x (defArgs st) (defBody st) (defScope st) .none kV dc pm an cd ct) ⟨[a],[]⟩=pure [(p,a)]:=by intros;rfl):Binds K fd [p] []:=D.F.binds λ_ _ _ _ _ _ us hl=>by obtain ⟨a,rfl⟩:=lenOf1 hl;exact h _ _ _ _ _ _ a
theorem Dn.c1 {p:Str} (D:Dn K mg x st f fd) (G:FnOk P w K mg base CX0 k f fd [p] (spD K g)) (h:∀ (kV dc pm:Value) (an:Option Addr) (cd ct a:Value),bindArgs (fnOf x x (defArgs st) (defBody st) (defScope st) .none kV dc pm an cd ct) ⟨[a],[]⟩=pure [(p,a)]:=by intros;rfl):Cd P w K mg base k f fd [p] g x:=⟨G,D.b1 h,D.F.kp,D.m⟩
theorem Dn.b2 {p q:Str} (D:Dn K mg x st f fd) (h:∀ (kV dc pm:Value) (an:Option Addr) (cd ct a b:Value),bindArgs (fnOf x x (defArgs st) (defBody st) (defScope st) .none kV dc pm an cd ct) ⟨[a,b],[]⟩=pure [(p,a),(q,b)]:=by intros;rfl):Binds K fd [p,q] []:=D.F.binds λ_ _ _ _ _ _ us hl=>by obtain ⟨a,b,rfl⟩:=lenOf2 hl;exact h _ _ _ _ _ _ a b
theorem Dn.c2 {p q:Str} (D:Dn K mg x st f fd) (G:FnOk P w K mg base CX0 k f fd [p,q] (spD K g)) (h:∀ (kV dc pm:Value) (an:Option Addr) (cd ct a b:Value),bindArgs (fnOf x x (defArgs st) (defBody st) (defScope st) .none kV dc pm an cd ct) ⟨[a,b],[]⟩=pure [(p,a),(q,b)]:=by intros;rfl):Cd P w K mg base k f fd [p,q] g x:=⟨G,D.b2 h,D.F.kp,D.m⟩
theorem Dn.b3 {p q r:Str} (D:Dn K mg x st f fd) (h:∀ (kV dc pm:Value) (an:Option Addr) (cd ct a b c:Value),bindArgs (fnOf x x (defArgs st) (defBody st) (defScope st) .none kV dc pm an cd ct) ⟨[a,b,c],[]⟩=pure [(p,a),(q,b),(r,c)]:=by intros;rfl):Binds K fd [p,q,r] []:=D.F.binds λ_ _ _ _ _ _ us hl=>by obtain ⟨a,b,c,rfl⟩:=lenOf3 hl;exact h _ _ _ _ _ _ a b c
theorem Dn.c3 {p q r:Str} (D:Dn K mg x st f fd) (G:FnOk P w K mg base CX0 k f fd [p,q,r] (spD K g)) (h:∀ (kV dc pm:Value) (an:Option Addr) (cd ct a b c:Value),bindArgs (fnOf x x (defArgs st) (defBody st) (defScope st) .none kV dc pm an cd ct) ⟨[a,b,c],[]⟩=pure [(p,a),(q,b),(r,c)]:=by intros;rfl):Cd P w K mg base k f fd [p,q,r] g x:=⟨G,D.b3 h,D.F.kp,D.m⟩
theorem Dn.b4 {p q r s:Str} (D:Dn K mg x st f fd) (h:∀ (kV dc pm:Value) (an:Option Addr) (cd ct a b c d:Value),bindArgs (fnOf x x (defArgs st) (defBody st) (defScope st) .none kV dc pm an cd ct) ⟨[a,b,c,d],[]⟩=pure [(p,a),(q,b),(r,c),(s,d)]:=by intros;rfl):Binds K fd [p,q,r,s] []:=D.F.binds λ_ _ _ _ _ _ us hl=>by obtain ⟨a,b,c,d,rfl⟩:=lenOf4 hl;exact h _ _ _ _ _ _ a b c d
theorem Dn.c4 {p q r s:Str} (D:Dn K mg x st f fd) (G:FnOk P w K mg base CX0 k f fd [p,q,r,s] (spD K g)) (h:∀ (kV dc pm:Value) (an:Option Addr) (cd ct a b c d:Value),bindArgs (fnOf x x (defArgs st) (defBody st) (defScope st) .none kV dc pm an cd ct) ⟨[a,b,c,d],[]⟩=pure [(p,a),(q,b),(r,c),(s,d)]:=by intros;rfl):Cd P w K mg base k f fd [p,q,r,s] g x:=⟨G,D.b4 h,D.F.kp,D.m⟩
end
theorem all_mk {P:Program}{w:World}{K:PySem.W.Frag}{mg:Str->Option Value}{fa:Addr} (qv:mg "law"=some (.ref fa))
  {f0 d0} (D0:Dn K mg "must_be_kin" At f0 d0)
  {f1 d1} (D1:Dn K mg "has_letter" Av f1 d1)
  {f2 d2} (D2:Dn K mg "covers" yZ f2 d2)
  {f3 d3} (D3:Dn K mg "in_common" y6 f3 d3)
  {f4 d4} (D4:Dn K mg "roof_of" zt f4 d4)
  {f5 d5} (D5:Dn K mg "is_under_another" zS f5 d5)
  {f6 d6} (D6:Dn K mg "covered" AE f6 d6)
  {f7 d7} (D7:Dn K mg "looked_through" yf f7 d7)
  {f8 d8} (D8:Dn K mg "first_border" yw f8 d8)
  {f9 d9} (D9:Dn K mg "halves_of" AJ f9 d9)
  {f10 d10} (nr:Dn K mg "fewest_of" yR f10 d10)
  {f11 d11} (g9:Dn K mg "looked_for" xX f11 d11)
  {f12 d12} (lf:Dn K mg "letter_left" yQ f12 d12)
  {f13 d13} (nv:Dn K mg "having" yi f13 d13)
  {f14 d14} (nw:Dn K mg "is_fewest" AS f14 d14)
  {f15 d15} (hG:Dn K mg "letters_in" ye f15 d15)
  {f16 d16} (hU:Dn K mg "is_right_tree" wQ f16 d16)
  {f17 d17} (ny:Dn K mg "_law_blend" zU f17 d17)
  {f18 d18} (nA:Dn K mg "_law_pot" zw f18 d18)
  {f19 d19} (nB:Dn K mg "_law_pick" zA f19 d19)
  {f20 d20} (nD:Dn K mg "_law_wish" yp f20 d20)
  {f21 d21} (nE:Dn K mg "_law_wishes" Am f21 d21)
  {f22 d22} (nG:Dn K mg "_law_nudged" AG f22 d22)
  {f23 d23} (nH:Dn K mg "_law_has" yX f23 d23)
  {f24 d24} (nJ:Dn K mg "_law_letters" yD f24 d24)
  {f25 d25} (nL:Dn K mg "_law_covers" zR f25 d25)
  {f26 d26} (nM:Dn K mg "_law_roof" yY f26 d26)
  {f27 d27} (nN:Dn K mg "_law_lacks" zm f27 d27)
  {f28 d28} (hV:Dn K mg "_law_is_shown" xg f28 d28)
  {f29 d29} (nO:Dn K mg "_law_due" zF f29 d29)
  {f30 d30} (nQ:Dn K mg "_law_letter" Ah f30 d30)
  {f31 d31} (hW:Dn K mg "_law_bent_tree" xE f31 d31)
  {f32 d32} (nV:Dn K mg "_law_bent" Ai f32 d32)
  {f33 d33} (lh:Dn K mg "law" yn f33 d33)
  (bn:mg "all"=none)
  (fb:mg "any"=none)
  (aS:mg "enumerate"=none)
  (fj:mg "int"=none)
  (ai:mg "len"=none)
  (bb:mg "list"=none)
  (aV:mg "max"=none)
  (aD:mg "min"=none)
  (aE:mg "range"=none)
  (bR:mg "repr"=none)
  (cA:mg "set"=none)
  (ay:mg "sorted"=none)
  (aq:mg "tuple"=none)
  (aC:mg "zip"=none)
  (T0:(tabIn K "letter_left").isSome=true) :
  ∃ fd:FuncData,(∀ (s:Shared) (v:Value),BindsTo s fd ⟨[v],[]⟩ [("script", v)])/\∀ base:Heap,K.In base->base.Ns mainGlobals mg->FnOk P w K mg base CX0 65 fa fd ["script"] (spD K vf):=by
 cases qv.symm.trans lh.m
 obtain ⟨⟨cT,PT⟩,T0⟩:=Option.isSome_iff_exists.mp T0
 refine ⟨d33,λs v=>?_,λbase _ _=>?_⟩
 ·obtain ⟨_,_,_,_,_,_,_,_,_,rfl,_,_⟩:=lh.F.ex
  exact .of_eq rfl
 have qw:=nA.c1 (Ln (P:=P) (w:=w) (base:=base) nA.F bb aS)
 have qx:=ny.c2 (Jl (P:=P) (w:=w) (base:=base) ny.F )
 have fk:=nB.c2 (F2 nB.F qx ai)
 have lj:=nD.c4 (Mx nD.F fk aE aD aV aq)
 have qy:=nG.c2 (GX nG.F fk ai aV aD)
 have qz:=nE.c3 (Md nE.F fk lj qy aD aE ai)
 have C0:=D0.c1 (HW (P:=P) (w:=w) (base:=base) D0.F ai)
 have C2:=D2.c2 (Jv D2.F C0 aC bn)
 have C5:=D5.c2 (Hz D5.F C2 fb)
 have C4:=D4.c1 (K4 D4.F C0 C5 ay cA)
 have C3:=D3.c2 (Jg D3.F C0 aC aV aD aq)
 have C8:=D8.c2 (Ku (P:=P) (w:=w) (base:=base) D8.F aS aD)
 have C9:=D9.c3 (G0 (P:=P) (w:=w) (base:=base) D9.F )
 have C7:=D7.c3 (A9 D7.F C3 C2 C8 C9 ai aq D7.b3 D7.F.kp D7.m 40)
 have C6:=D6.c2 (Lo D6.F C0 C7 ai bb aE)
 have C1:=D1.c2 (JQ D1.F C0 aC bn)
 have lq:=nv.c2 (KC nv.F C1)
 have nW:=lf.c2 (Ga lf.F lf.a T0 C6 lq aD ai)
 have qA:=g9.c3 (DZ g9.F nW lq ay g9.b3 g9.F.kp g9.m 10)
 have qB:=nr.c1 (Ht nr.F C4 qA)
 have nX:=nQ.c2 (Ge nQ.F fk ai aq)
 have qC:=hW.c3 (Do hW.F fk nX ai hW.b3 hW.F.kp hW.m 20)
 have qD:=nV.c3 (GS nV.F fk lj qC ai aC aD aV aq ay)
 have ja:=nH.c2 (K3 (P:=P) (w:=w) (base:=base) nH.F aC)
 have qE:=nL.c2 (IM nL.F ja aq)
 have qF:=nM.c1 (JO nM.F qE ay)
 have qG:=nJ.c1 (Fe (P:=P) (w:=w) (base:=base) nJ.F aE)
 have qH:=nN.c3 (Jc nN.F ja)
 have qI:=hV.c4 (CY hV.F qH ja ai aC hV.b4 hV.F.kp hV.m 20)
 have qJ:=nO.c2 (Jo nO.F qF qG ja qI ay cA ai)
 have qK:=hG.c1 (Ch (P:=P) (w:=w) (base:=base) hG.F hG.b1 hG.F.kp hG.m 20)
 have qL:=hU.c4 (Bk hU.F lq ai aC bn hU.b4 hU.F.kp hU.m 20)
 have qM:=nw.c2 (KU nw.F C0 qK C4 qL nW ai)
 exact Kc lh.F qw fk qz lj qB nX qD qJ qM aE bb aD aV aq ai fj bR
theorem walk {l:PySem.W.OpenLaw}{q:Program}{cj:List Str}{XP:(Str->Option Value)->Heap->Prop}{YP:World->Heap->Prop}{d:DefRec}{K:Params->PySem.W.Frag} (nY:∀ ns:List Int,ns.length<=63->∃ rs,vf [.val (.lst (ns.map D.int))]=some (.val (.bl true),rs)) (hn:l.most=some 63) (gj:d.params.defaults=[]) (ca:∃ d',(recsOf q).find? (λe=>e.name == ("letter_left":Str))=some d') (gI:∀ p,noTabs (K p)=true)
  (hY:∀ (w:World) (h:Heap),YP w h->(K w.params).In h)
  (F:∀ (w:World) (mg:Str->Option Value) (fa:Addr) (h:Heap),(K w.params).In h->h.Ns mainGlobals mg->mg d.name=some (.ref fa) →
   ∃ fd:FuncData,(∀ (s:Shared) (u:Value),BindsTo s fd ⟨[u],[]⟩ [("script", u)])/\∀ base:Heap,(K w.params).In base->base.Ns mainGlobals mg->FnOk l.prog w (K w.params) mg base CX0 65 fa fd ["script"] (spD (K w.params) vf)) :
  PySem.W.WalkO q cj XP YP l.row.toRowW d [] (λf vs=>PySem.call f vs) :=
 F8 (n:=63) (k:=65) (x := "script") (CX:=λ_=>CX0) (sp:=λw=>spD (K w.params) vf) hn (by decide) gj ⟨rfl,by decide,by decide,rfl⟩ ca gI hY F (λ_ H a ns hl hS=>Gh hS (nY ns hl)) λ_ _ _ _ _ z=>z
end Own
namespace Own
open DL L2
def PotOk (c:List D):Prop:=∃ (ns:List Int) (at_ ae:Int),c=[.lst (ns.map .int),.int at_,.int ae]/\0<=at_
theorem JI (a b:Int):∃ z,cvF wE [.int a,.int b]=some (.int z):=by
 have:wpF wE [.val (.int a),.val (.int b)] λr _=>∃ z,r=.val (.int z):=by
  refine tZ rfl λKE hE _=>?_
  rw [Au]
  refine sH ?_;rintro K hK hR
  simp
  split
  ·exact hR _ _ (hE _ _ ⟨_,rfl,_,rfl⟩)
  ·refine hK _ ?_
   refine sH ?_;rintro K hK -
   simp
   refine hK _ ?_
   have l1:=emod_nonneg (a % 998244353*40692+b*69621+1009) (show (2147483399:Int)≠0 by decide)
   have u1:=emod_lt_of_pos (a % 998244353*40692+b*69621+1009) (show (0:Int) < 2147483399 by decide)
   generalize (a % 998244353*40692+b*69621+1009) % 2147483399=x at *
   refine sH ?_;rintro K hK -
   simp
   refine ⟨by omega,hK _ ?_⟩
   have l2:=emod_nonneg (x*x+b*48271+a % 131071) (show (2147483647:Int)≠0 by decide)
   have u2:=emod_lt_of_pos (x*x+b*48271+a % 131071) (show (0:Int) < 2147483647 by decide)
   generalize (x*x+b*48271+a % 131071) % 2147483647=y at *
   refine sH ?_;rintro K hK -
   simp
   refine ⟨by omega,hK _ ?_⟩
   generalize (y*y+x*17+3) % 2147483629=z at *
   simp
   exact hE _ _ ⟨_,rfl,_,rfl⟩
 obtain ⟨r,aY,e,z,rfl⟩:=this
 exact ⟨z,by unfold cvF;simp only [map];rw [e]⟩
theorem tG {c:List D}{u:Int}{Q:R->List D->Prop} (hc:PotOk c) (h1:1<=u) (h2:u < 2 ^ 200) (k:∀ n c',0<=n->n < u->PotOk c'->Q (.val (.int n)) c'):wpB tF c [.int u] Q:=by
 obtain ⟨ns,at_,ae,rfl,h0⟩:=hc
 refine uT rfl λKE hE _=>?_
 rw [An]
 refine tL (λab=>∃ lA jL x y z,0<=lA/\ab=[some (.bor [.lst (ns.map .int),.int lA,.int jL]),some (.val (.int u)),x,y,z]) (λK hK _=>?_) ?_
 ·simp [isMut,R.mut]
  split
  ·refine sH λK1 dM _=>?_
   simp [isMut,R.mut]
   refine dM _ ?_
   refine sH λK1 dM _=>?_
   simp [isMut,R.mut]
   refine dM _ ?_
   refine tL (λab=>∃ m,ab=[some (.bor [.lst (ns.map .int),.int at_,.int ae]),some (.val (.int u)),some (.val (.int at_)),some (.val (.int m)),none]) (λK1 dM _=>?_) ?_
   ·simp [isMut,R.mut]
    split
    ·rename_i h
     obtain ⟨a,e,m⟩:=z9 (ds:=ns.map D.int) h0 (by simpa using h)
     obtain ⟨b,_,rfl⟩:=mem_map.mp m
     rw [sR e]
     simp
     exact dM _ ⟨_,rfl⟩
    ·rename_i h
     split
     ·exact dM _ ⟨_,rfl⟩
     ·rename_i h'
      have hl:0 < ns.length:=by cases ns with | nil=>simp at h' | cons=>simp
      refine ⟨by omega,?_⟩
      obtain ⟨a,e,m⟩:=z9 (ds:=ns.map D.int) (i:=(at_*7+1) % (ns.length:Int)) (emod_nonneg _ (by omega)) (by simpa using emod_lt_of_pos _ (by omega))
      obtain ⟨b,_,rfl⟩:=mem_map.mp m
      rw [sR e]
      simp
      exact ⟨by omega,dM _ ⟨_,rfl⟩⟩
   ·rintro ab ⟨m,rfl⟩
    refine sH λK1 dM _=>?_
    simp [isMut,R.mut]
    refine dM _ ?_
    obtain ⟨z,e⟩:=JI m at_
    simp [isMut,R.mut,e]
    exact hK _ ⟨_,_,_,_,_,by omega,rfl⟩
  ·exact hK _ ⟨_,_,_,_,_,h0,rfl⟩
 ·rintro ab ⟨lA,jL,x,y,z,h3,rfl⟩
  refine sH ?_;rintro K hK -
  simp [isMut,R.mut]
  refine ⟨by omega,hK _ ?_⟩
  refine sH ?_;rintro K hK -
  simp [isMut,R.mut]
  refine ⟨⟨by omega,by simpa using h2⟩,hK _ ?_⟩
  simp
  exact hE _ _ _ ⟨_,rfl⟩ (k _ _ (emod_nonneg _ (by omega)) (emod_lt_of_pos _ (by omega)) ⟨_,_,_,rfl,h3⟩)
theorem wz {xs:List D}{m i:Nat}{d:D} (h:(numD m xs)[i]?=some d):∃ x,xs[i]?=some x/\d=.tup [.int ((m+i:Nat):Int),x]:=by
 induction xs generalizing m i with
 | nil=>simp [numD] at h
 | cons a xs ih =>
  cases i with
  | zero=>simp [numD] at h;exact ⟨a,rfl,h.symm⟩
  | succ i =>
   simp only [numD,getElem?_cons_succ] at h
   obtain ⟨x,e1,e2⟩:=ih h
   exact ⟨x,by simpa using e1,by rw [e2,show m+1+i=m+(i+1) from by omega]⟩
theorem A5 {α:Type}{f:α->D}{xs:List α}{lo hi:Option Int}:∃ ys:List α,cutD (xs.map f) lo hi=ys.map f/\(∀ y∈ys,y∈xs)/\ys.length=min (HT.sIx xs.length xs.length hi - HT.sIx xs.length 0 lo) (xs.length - HT.sIx xs.length 0 lo):=by
 refine ⟨(xs.drop (HT.sIx xs.length 0 lo)).take (HT.sIx xs.length xs.length hi - HT.sIx xs.length 0 lo),?_,?_,?_⟩
 ·unfold cutD
  simp [map_drop,map_take]
 ·intro y h
  exact mem_of_mem_drop (mem_of_mem_take h)
 ·simp
theorem Jj (ns:List Int):∃ d,coF wB [.lst (ns.map .int)]=some d/\PotOk d:=by
 refine DU ?_
 unfold wB
 refine xT rfl ?_
 rw [zC]
 refine sH λK hK _=>?_
 simp
 refine hK _ ?_
 obtain ⟨cs,e,-,hl⟩:=A5 (f:=D.int) (xs:=ns) (lo:=none) (hi:=some 12)
 rw [e]
 have dB:cs.length=min 12 ns.length:=by
  rw [hl];simp [HT.sIx]
 refine tL (λab=>∃ cs,∃ x y z,ab=[x,some (.own (map D.int cs)),y,z]) (λK hK _=>?_) ?_
 ·simp
  obtain ⟨ms,e,-,hm⟩:=A5 (f:=D.int) (xs:=ns) (lo:=some 12) (hi:=some 63)
  rw [e]
  refine u4 (J:=λi Y=>∃ cs:List Int,∃ y z,cs.length=min 12 ns.length/\Y=[some (.val (.lst (ns.map .int))),some (.own (cs.map .int)),y,z]) ⟨cs,_,_,dB,rfl⟩ ?_ ?_
  ·rintro i d Y hd ⟨cs,y,z,hc,rfl⟩
   obtain ⟨x,e1,rfl⟩:=wz hd
   rw [getElem?_map,map_eq_some_iff] at e1
   obtain ⟨n,e1,rfl⟩:=e1
   have hi:i < ms.length:=(List.getElem?_eq_some_iff.mp e1).1
   have rY:12 < ns.length:=by
    simp [HT.sIx] at hm
    omega
   simp [isMut,R.mut]
   have jP:cs.length=12:=by omega
   have qN:((i:Int) % 12)=((i % 12:Nat):Int):=by omega
   rw [qN]
   have bE:i % 12 < cs.length:=by omega
   rw [sR (a:=D.int cs[i % 12]) (by rw [uh];simp [bE])]
   simp
   refine ⟨(cs.set (i % 12) (cs[i % 12]+n)).map .int,?_,?_⟩
   ·unfold stF L2.ixN
    rw [if_pos (by omega),if_pos (by simp;omega),show ((i:Int) % 12).toNat=i % 12 from by omega]
    simp
   ·exact ⟨cs.set (i % 12) (cs[i % 12]+n),by simpa using hc,by simp⟩
  ·rintro Y ⟨cs,y,z,hc,rfl⟩
   exact hK _ ⟨cs,_,_,_,rfl⟩
 ·rintro ab ⟨cs,x,y,z,rfl⟩
  simp [flR,fin]
  exact ⟨cs,0,0,rfl,by omega⟩
def pairD (p:Int×Int):D:=.tup [.int p.1,.int p.2]
def wishD (w:List (Int×Int)):D:=.tup (w.map pairD)
def letD (l:List Int):D:=.tup (l.map .int)
structure PairOk (p:Int×Int):Prop where
 lo:0<=p.1
 le:p.1<=p.2
 hi:p.2<=9
structure Wf (n:Nat) (w:List (Int×Int)):Prop where
 len:w.length=n
 all:∀ p∈w,PairOk p
theorem xU {lo:Int}{n i:Nat}{d:D} (h:(rngD lo n)[i]?=some d):d=.int (lo+i)/\i < n:=by
 unfold rngD at h
 rw [getElem?_map,map_eq_some_iff] at h
 obtain ⟨k,h1,rfl⟩:=h
 obtain ⟨h2,h3⟩:=List.getElem?_eq_some_iff.mp h1
 rw [getElem_range] at h3
 subst h3
 exact ⟨rfl,by simpa using h2⟩
@[simp] theorem wZ {lo:Int}{n:Nat}:(rngD lo n).length=n:=by simp [rngD]
theorem Wf.app {n:Nat}{w:List (Int×Int)} (h:Wf n w){p:Int×Int} (hp:PairOk p):Wf (n+1) (w++[p]):=by
 refine ⟨by simp [h.len],λq hq=>?_⟩
 rcases mem_append.mp hq with h1 | h1
 ·exact h.all q h1
 ·rw [mem_singleton.mp h1];exact hp
theorem y0 {c:List D}{f:Nat}{low top:Int}{Q:R->List D->Prop} (hc:PotOk c) (hf:f<=100) (h1:0<=low) (h2:1<=top) (h3:low+top<=10) (k:∀ w c',Wf f w->PotOk c'->Q (.val (wishD w)) c'):wpB vA c [.int f,.int low,.int top] Q:=by
 refine uT rfl λKE hE _=>?_
 rw [zc]
 refine sH ?_;rintro K hK -
 refine ⟨_,_,rfl,hK _ ?_⟩
 show wp _ [some (.bor c),some (.val (.int f)),some (.val (.int low)),some (.val (.int top)),some (.own []),none,none,none] _
 refine sH ?_;rintro K hK -
 simp
 refine ⟨by omega,?_⟩
 refine ua (J:=λi Y=>∃ c w x y z,PotOk c/\Wf i w/\Y=[some (.bor c),some (.val (.int f)),some (.val (.int low)),some (.val (.int top)),some (.own (w.map pairD)),x,y,z]) ⟨c,[],_,_,_,hc,⟨rfl,by simp⟩,rfl⟩ ?_ ?_
 ·rintro i d Y hd ⟨c,w,x,y,z,hc,hw,rfl⟩ KL aN - - -
  obtain ⟨rfl,hi⟩:=xU hd
  simp
  refine sH ?_;rintro K hK -
  simp [isMut,R.mut]
  refine tG hc h2 (by omega) λn c' fm ey aK=>?_
  simp
  refine hK _ ?_
  refine sH ?_;rintro K hK -
  simp [isMut,R.mut]
  refine tG aK h2 (by omega) λm nZ dX jb hX=>?_
  simp
  refine hK _ ?_
  simp [isMut,R.mut]
  refine ⟨by have:=hw.len;omega,aN _ ?_⟩
  exact ⟨_,w++[(low+min n m,low+max n m)],_,_,_,hX,hw.app ⟨by simp;omega,by simp;omega,by simp;omega⟩,by rw [map_append];rfl⟩
 ·rintro Y ⟨c,w,x,y,z,hc,hw,rfl⟩
  refine hK _ ?_
  rw [wZ] at hw
  simp
  exact hE _ _ _ ⟨_,rfl⟩ (k w c hw hc)
theorem IT {c:List D}{f:Nat}{w:List (Int×Int)}{Q:R->List D->Prop} (hc:PotOk c) (hw:Wf f w) (h0:1<=f) (hf:f<=100) (k:∀ w c',Wf f w->PotOk c'->Q (.val (wishD w)) c'):wpB xn c [wishD w] Q:=by
 refine uT rfl λKE hE _=>?_
 rw [z6]
 refine sH ?_;rintro K hK -
 simp [isMut,R.mut,wishD]
 refine tG hc (by rw [hw.len];omega) (by rw [hw.len];omega) λn c' fm ey aK=>?_
 simp
 refine hK _ ?_
 obtain ⟨n,rfl⟩:=Int.eq_ofNat_of_zero_le fm
 have hn:n < w.length:=by omega
 obtain ⟨p,hp⟩:∃ p,w[n]?=some p:=⟨_,getElem?_eq_getElem hn⟩
 have dN:PairOk p:=hw.all p (mem_of_getElem? hp)
 have e1:atI (w.map pairD) (n:Int)=some (pairD p):=by rw [DL.uh];simp [hp]
 refine sH ?_;rintro K hK -
 simp [e1]
 simp [pairD]
 refine hK _ ?_
 refine sH ?_;rintro K hK -
 refine ⟨_,_,rfl,hK _ ?_⟩
 show wp _ [some (R.bor c'),some (R.val (D.tup (w.map pairD))),some (.val (.int n)),some (.val (.int p.1)),some (.val (.int p.2)),some (.val (.lst [D.tup [.int (if p.1 - 1 > 0 then p.1 - 1 else 0),.int p.2],.tup [.int p.1,.int (if p.2+1 < 9 then p.2+1 else 9)],.tup [.int (if p.2 < p.1+1 then p.2 else p.1+1),.int p.2],.tup [.int p.1,.int (if p.2 - 1 > p.1 then p.2 - 1 else p.1)]]))] _
 have aQ:∀ m:Int,0<=m->m < 4->∃ q,PairOk q/\atI [D.tup [.int (if p.1 - 1 > 0 then p.1 - 1 else 0),.int p.2],.tup [.int p.1,.int (if p.2+1 < 9 then p.2+1 else 9)],.tup [.int (if p.2 < p.1+1 then p.2 else p.1+1),.int p.2],.tup [.int p.1,.int (if p.2 - 1 > p.1 then p.2 - 1 else p.1)]] m=some (pairD q):=λm dX jb=>by
  have:=dN.lo;have:=dN.le;have:=dN.hi
  have:m=0\/m=1\/m=2\/m=3:=by omega
  rcases this with rfl | rfl | rfl | rfl
  ·exact ⟨(if p.1 - 1 > 0 then p.1 - 1 else 0,p.2),⟨by dsimp only;split<;>omega,by dsimp only;split<;>omega,by dsimp only;omega⟩,rfl⟩
  ·exact ⟨(p.1,if p.2+1 < 9 then p.2+1 else 9),⟨by dsimp only;omega,by dsimp only;split<;>omega,by dsimp only;split<;>omega⟩,rfl⟩
  ·exact ⟨(if p.2 < p.1+1 then p.2 else p.1+1,p.2),⟨by dsimp only;split<;>omega,by dsimp only;split<;>omega,by dsimp only;omega⟩,rfl⟩
  ·exact ⟨(p.1,if p.2 - 1 > p.1 then p.2 - 1 else p.1),⟨by dsimp only;omega,by dsimp only;split<;>omega,by dsimp only;split<;>omega⟩,rfl⟩
 generalize [D.tup [.int (if p.1 - 1 > 0 then p.1 - 1 else 0),.int p.2],.tup [.int p.1,.int (if p.2+1 < 9 then p.2+1 else 9)],.tup [.int (if p.2 < p.1+1 then p.2 else p.1+1),.int p.2],.tup [.int p.1,.int (if p.2 - 1 > p.1 then p.2 - 1 else p.1)]]=ps at aQ ⊢
 have e2:slF (.tup (w.map pairD)) none (some (n:Int))=some (.tup ((w.map pairD).take n)):=zQ (by simpa using hn)
 have e3:slF (.tup (w.map pairD)) (some ((n:Int)+1)) none=some (.tup ((w.map pairD).drop (n+1))):=A7 (n:=n+1) (by simp;omega) (by omega)
 simp [isMut,R.mut,e2]
 refine tG aK (by omega) (by omega) λm nZ dX jb hX=>?_
 obtain ⟨q,hq,eq⟩:=aQ m dX jb
 simp [eq,e3]
 refine ⟨by have:=hw.len;omega,by have:=hw.len;omega,hE _ _ _ ⟨_,rfl⟩ ?_⟩
 have:=k (w.take n++[q]++w.drop (n+1)) nZ ⟨by have:=hw.len;simp;omega,λr hr=>?_⟩ hX
 ·simpa [wishD,map_take,map_drop] using this
 ·simp at hr
  rcases hr with h | h | h
  ·exact hw.all r (mem_of_mem_take h)
  ·rw [h];exact hq
  ·exact hw.all r (mem_of_mem_drop h)
theorem v8 {α:Type}{f:α->D}{xs:List α}{i:Int} (h0:0<=i) (h1:i < xs.length):∃ x,x∈xs/\atI (xs.map f) i=some (f x):=by
 obtain ⟨a,e,m⟩:=z9 (ds:=xs.map f) h0 (by simpa using h1)
 obtain ⟨b,hb,rfl⟩:=mem_map.mp m
 exact ⟨b,hb,e⟩
theorem xb {ds:List D}{n:Nat} (h:∀ d∈ds,dep d<=n):depA ds<=n:=by
 induction ds with
 | nil=>simp [depA]
 | cons d ds ih =>
  rw [depA]
  have h1:=h d mem_cons_self
  have h2:=ih λd hd=>h d (mem_cons_of_mem _ hd)
  omega
theorem vo {w:List (Int×Int)}:dep (wishD w)<=2:=by
 unfold wishD
 rw [dep]
 have:depA (w.map pairD)<=1:=xb λd hd=>by
  obtain ⟨p,_,rfl⟩:=mem_map.mp hd
  unfold pairD
  simp [dep,depA]
 omega
theorem Jm {c:List D}{f:Nat}{most:Int}{Q:R->List D->Prop} (hc:PotOk c) (h0:1<=f) (hf:f<=3) (h1:0<=most) (h2:most<=100) (k:∀ (ws:List (List (Int×Int))) c',(∀ w∈ws,Wf f w)->(ws.length:Int)<=most->PotOk c'->Q (.val (.lst (ws.map wishD))) c'):wpB xJ c [.int f,.int most] Q:=by
 refine uT rfl λKE hE _=>?_
 rw [zu]
 refine sH ?_;rintro K hK -
 simp [isMut,R.mut]
 refine tG hc (by omega) (by omega) λn c' fm ey aK=>?_
 simp
 have e1:∃ t:Int,1<=t/\t<=10/\atI [D.int 2,D.int 3,D.int 4,D.int 10] n=some (.int t):=by
  have:n=0\/n=1\/n=2\/n=3:=by omega
  rcases this with rfl | rfl | rfl | rfl
  ·exact ⟨2,by omega,by omega,rfl⟩
  ·exact ⟨3,by omega,by omega,rfl⟩
  ·exact ⟨4,by omega,by omega,rfl⟩
  ·exact ⟨10,by omega,by omega,rfl⟩
 obtain ⟨t,rZ,r8,e1⟩:=e1
 have e2:∃ t:Int,1<=t/\t<=10/\atI [D.int 10,D.int 10,D.int 10,D.int 4] (f:Int)=some (.int t):=by
  have:f=1\/f=2\/f=3:=by omega
  rcases this with rfl | rfl | rfl
  ·exact ⟨10,by omega,by omega,rfl⟩
  ·exact ⟨10,by omega,by omega,rfl⟩
  ·exact ⟨4,by omega,by omega,rfl⟩
 obtain ⟨t',rz,rA,e2⟩:=e2
 simp [e1,e2]
 refine hK _ ?_
 refine sH ?_;rintro K hK -
 simp [isMut,R.mut]
 refine tG aK (by omega) (by omega) λlow c' cZ dB aK=>?_
 simp
 refine hK _ ?_
 refine sH ?_;rintro K hK -
 simp
 refine hK _ ?_
 refine sH ?_;rintro K hK -
 simp [isMut,R.mut]
 refine tG aK (by omega) (by omega) λrB c' dX jb aK=>?_
 simp
 refine ⟨by omega,?_⟩
 refine ua (J:=λi Y=>∃ (c:List D) (ws:List (List (Int×Int))) (x y z:Option R),PotOk c/\(∀ w∈ws,Wf f w)/\ws.length=i/\Y=[some (.bor c),some (.val (.int f)),some (.val (.int most)),some (.val (.int (min t t'))),some (.val (.int low)),some (.own (ws.map wishD)),x,y,z]) ⟨c',[],_,_,_,aK,by simp,rfl,rfl⟩ ?_ ?_
 ·rintro i d Y hd ⟨c,ws,x,y,z,hc,ak,hi,rfl⟩ KL aN - - -
  obtain ⟨rfl,bQ⟩:=xU hd
  simp
  refine sH ?_;rintro K hK -
  simp [isMut,R.mut]
  refine tG hc (by omega) (by omega) λway c' r9 sd aK=>?_
  simp
  refine hK _ ?_
  refine sH ?_;rintro K hK -
  simp [isMut,R.mut]
  refine y0 aK (by omega) cZ (by omega) (by omega) λw c' hw aK=>?_
  simp
  refine hK _ ?_
  refine tL (λY=>∃ (c:List D) (w:List (Int×Int)) (x:Option R),PotOk c/\Wf f w/\Y=[some (.bor c),some (.val (.int f)),some (.val (.int most)),some (.val (.int (min t t'))),some (.val (.int low)),some (.own (ws.map wishD)),x,some (.val (.int way)),some (.val (wishD w))]) ?_ ?_
  ·rintro K hK -
   simp [isMut,R.mut]
   split
   ·split
    ·exact hK _ ⟨_,_,_,aK,hw,rfl⟩
    ·rename_i dF
     have n4:0 < ws.length:=length_pos_iff.mpr dF
     refine tG aK (by omega) (by omega) λn c' fm ey aK=>?_
     obtain ⟨w',lB,e⟩:=v8 (f:=wishD) fm ey
     simp [e]
     exact hK _ ⟨_,_,_,aK,ak _ lB,rfl⟩
   ·exact hK _ ⟨_,_,_,aK,hw,rfl⟩
  ·rintro Y ⟨c,w,x,hc,hw,rfl⟩
   refine tL (λY=>∃ (c:List D) (w:List (Int×Int)) (x y:Option R),PotOk c/\Wf f w/\Y=[some (.bor c),some (.val (.int f)),some (.val (.int most)),some (.val (.int (min t t'))),some (.val (.int low)),some (.own (ws.map wishD)),x,y,some (.val (wishD w))]) ?_ ?_
   ·rintro K hK -
    simp [isMut,R.mut]
    split
    ·split
     ·exact hK _ ⟨_,_,_,_,hc,hw,rfl⟩
     ·rename_i dF
      have n4:0 < ws.length:=length_pos_iff.mpr dF
      refine tG hc (by omega) (by omega) λn c' fm ey aK=>?_
      obtain ⟨w',lB,e⟩:=v8 (f:=wishD) fm ey
      simp [e]
      refine IT aK (ak _ lB) h0 (by omega) λw c' hw aK=>?_
      simp
      exact hK _ ⟨_,_,_,_,aK,hw,rfl⟩
    ·exact hK _ ⟨_,_,_,_,hc,hw,rfl⟩
   ·rintro Y ⟨c,w,x,y,hc,hw,rfl⟩
    simp [isMut,R.mut]
    refine ⟨by omega,aN _ ⟨_,ws++[w],_,_,_,hc,λv hv=>?_,by simp;omega,by rw [map_append];rfl⟩⟩
    rcases mem_append.mp hv with h | h
    ·exact ak v h
    ·rw [mem_singleton.mp h];exact hw
 ·rintro Y ⟨c,ws,x,y,z,hc,ak,hi,rfl⟩
  refine hK _ ?_
  rw [wZ] at hi
  simp
  exact hE _ _ _ ⟨_,rfl⟩ (k ws c ak (by omega) hc)
noncomputable def hasB (w:List (Int×Int)) (l:List Int):Bool:=(w.zip l).all λq=>decide (q.1.1<=q.2)&&decide (q.2<=q.1.2)
noncomputable def covB (a b:List (Int×Int)):Bool:=(a.zip b).all λq=>decide (q.1.1<=q.2.1)&&decide (q.2.2<=q.1.2)
@[simp] theorem Nu {α:Type}{xs:List α}:List.filter (λ_=>true) xs=xs:=by
 induction xs with
 | nil=>rfl
 | cons x xs ih=>simp
@[simp] theorem Of {p:Int×Int}:ixF (pairD p) (.int 0)=some (.int p.1):=rfl
@[simp] theorem NA {p:Int×Int}:ixF (pairD p) (.int 1)=some (.int p.2):=rfl
@[simp ↓] theorem MC {α:Type}{F:D->Option α}{g:M D}{Y:Gm}{Q:α->Gm->Prop}:wp (un1 F g) Y Q↔wp g Y λd ab=>wp (lft (F d)) ab Q:=by simp [un1]
@[simp] theorem Nr {i:Int}:negI (.int i)=some (.int (-i)):=rfl
@[simp] theorem Nw {k:Ki}{d:D}:isiF k d=some (.bl (isiB k d)):=rfl
@[simp] theorem Nb {b:Bool}{d:D}:isNF b d .non=some (.bl (if b then !isN d else isN d)):=rfl
@[simp ↓] theorem N4 {neg:Bool}{a:D}{ds:List D}{Y:Gm}{QD:D->Gm->Prop}:wp (lft (inF neg a (.lst ds))) Y QD↔dep a<=99/\QD (.bl (if neg then !ds.any (λd=>deq d a) else ds.any λd=>deq d a)) Y:=by
 simp only [inF,zP,uO]
@[simp] theorem Nv:isiB .iT .non=false:=rfl
@[simp] theorem Od {x:Bool}:isiB .iT (.bl x)=true:=rfl
@[simp] theorem Oy {x:Int}:isiB .iT (.int x)=true:=rfl
@[simp] theorem MU {x:PySem.Str}:isiB .iT (.str x)=false:=rfl
@[simp] theorem MJ {x:List D}:isiB .iT (.tup x)=false:=rfl
@[simp] theorem OG {x:List D}:isiB .iT (.lst x)=false:=rfl
@[simp] theorem M9:isiB .sT .non=false:=rfl
@[simp] theorem MF {x:Bool}:isiB .sT (.bl x)=false:=rfl
@[simp] theorem Oz {x:Int}:isiB .sT (.int x)=false:=rfl
@[simp] theorem No {x:PySem.Str}:isiB .sT (.str x)=true:=rfl
@[simp] theorem MH {x:List D}:isiB .sT (.tup x)=false:=rfl
@[simp] theorem OF {x:List D}:isiB .sT (.lst x)=false:=rfl
@[simp] theorem NF:isiB .bT .non=false:=rfl
@[simp] theorem Nl {x:Bool}:isiB .bT (.bl x)=true:=rfl
@[simp] theorem Nt {x:Int}:isiB .bT (.int x)=false:=rfl
@[simp] theorem MX {x:PySem.Str}:isiB .bT (.str x)=false:=rfl
@[simp] theorem NV {x:List D}:isiB .bT (.tup x)=false:=rfl
@[simp] theorem NL {x:List D}:isiB .bT (.lst x)=false:=rfl
@[simp] theorem N0:isiB .tT .non=false:=rfl
@[simp] theorem MQ {x:Bool}:isiB .tT (.bl x)=false:=rfl
@[simp] theorem On {x:Int}:isiB .tT (.int x)=false:=rfl
@[simp] theorem MD {x:PySem.Str}:isiB .tT (.str x)=false:=rfl
@[simp] theorem Oi {x:List D}:isiB .tT (.tup x)=true:=rfl
@[simp] theorem M3 {x:List D}:isiB .tT (.lst x)=false:=rfl
@[simp] theorem ME:isiB .lT .non=false:=rfl
@[simp] theorem NO {x:Bool}:isiB .lT (.bl x)=false:=rfl
@[simp] theorem N6 {x:Int}:isiB .lT (.int x)=false:=rfl
@[simp] theorem MN {x:PySem.Str}:isiB .lT (.str x)=false:=rfl
@[simp] theorem MV {x:List D}:isiB .lT (.tup x)=false:=rfl
@[simp] theorem Nn {x:List D}:isiB .lT (.lst x)=true:=rfl
theorem xz {n:Nat}{ds:List D} (h:∀ d∈ds,∃ xs:List D,d=.tup xs/\xs.length=n):cvF ur [.lst ds]=some .non:=by
 refine uq rfl λK _ k2=>?_
 rw [yH]
 simp
 refine ua (J:=λi Y=>∃ x,Y=[some (.val (.lst ds)),x]) ⟨_,rfl⟩ ?_ ?_
 ·rintro i d Y hd ⟨x,rfl⟩ KL aN - - -
  obtain ⟨xs,rfl,hx⟩:=h d (mem_of_getElem? hd)
  cases ds with
  | nil=>simp at hd
  | cons d0 ds =>
   obtain ⟨ys,rfl,hy⟩:=h d0 mem_cons_self
   simp [hx,hy]
   exact aN _ ⟨_,rfl⟩
 ·rintro Y ⟨x,rfl⟩
  exact k2 _ rfl ⟨_,rfl⟩
theorem Ap {a b:List D} (h:a.length=b.length):cvF ur [.lst [.tup a,.tup b]]=some .non :=
 xz (n:=a.length) (by simp [h])
theorem Ec {a b:List (Int×Int)} (h:a.length=b.length) (hl:a.length<=1000):cvF wx [wishD a,wishD b]=some (.bl (covB a b)):=by
 refine uq rfl λK k1 _=>?_
 rw [Ac]
 refine sH ?_;rintro K hK -
 simp [wishD,Ap,h]
 refine hK _ ?_
 simp
 refine wk (a.zip b) (λq=>.tup [pairD q.1,pairD q.2]) (λ_=>true) (λq=>.bl (decide (q.1.1<=q.2.1)&&decide (q.2.2<=q.1.2))) ?_
 simp [xO]
 refine ⟨by omega,?_,?_⟩
 ·rintro a b n m hm
  split<;>omega
 ·rw [yM]
  simp
  exact k1 _ ⟨_,rfl⟩
theorem JP {w:List (Int×Int)}{l:List Int}:(List.filter (λq:Int×(Int×Int)=>decide (q.1 < q.2.1)||decide (q.2.2 < q.1)) (l.zip w)).isEmpty=hasB w l:=by
 unfold hasB
 induction l generalizing w with
 | nil=>simp
 | cons n l ih =>
  cases w with
  | nil=>simp
  | cons p w =>
   rw [zip_cons_cons,zip_cons_cons,filter_cons,all_cons]
   by_cases h:p.1<=n/\n<=p.2
   ·rw [if_neg (by simp;omega),ih]
    simp [h]
   ·rw [if_pos (by simp;omega)]
    simp
    omega
theorem wt {w:List (Int×Int)}{l:List Int} (h:w.length=l.length) (hl:w.length<=1000):cvF uB [wishD w,letD l]=some (.bl (hasB w l)):=by
 refine uq rfl λK k1 _=>?_
 rw [ze]
 simp [wishD,letD]
 refine wk (l.zip w) (λq=>.tup [.int q.1,pairD q.2]) (λq=>decide (q.1 < q.2.1)||decide (q.2.2 < q.1)) (λq=>.int 1) ?_
 simp [xO]
 refine ⟨by omega,?_,?_⟩
 ·rintro n a b hm
  split<;>omega
 ·rw [JP]
  exact k1 _ ⟨_,rfl⟩
theorem GV {w:List (Int×Int)}{l:List Int} (h:w.length=l.length) (hl:w.length<=1000):cvF wT [wishD w,letD l]=some (.bl (hasB w l)):=by
 refine uq rfl λK k1 _=>?_
 rw [yG]
 refine sH ?_;rintro K hK -
 simp [wishD,letD,Ap,h]
 refine hK _ ?_
 simp
 refine wk (w.zip l) (λq=>.tup [pairD q.1,.int q.2]) (λ_=>true) (λq=>.bl (decide (q.1.1<=q.2)&&decide (q.2<=q.1.2))) ?_
 simp [xO]
 refine ⟨by omega,?_,?_⟩
 ·rintro a b n hm
  split<;>omega
 ·rw [yM]
  simp
  exact k1 _ ⟨_,rfl⟩
theorem Jx {a b:List (Int×Int)} (hb:∀ p∈b,PairOk p):(hasB a (b.map (·.1))&&hasB a (b.map (·.2)))=covB a b:=by
 unfold hasB covB
 induction a generalizing b with
 | nil=>simp
 | cons p a ih =>
  cases b with
  | nil=>simp
  | cons q b =>
   have h1:=ih λp hp=>hb p (mem_cons_of_mem _ hp)
   have h2:=(hb q mem_cons_self).le
   simp only [map_cons,zip_cons_cons,all_cons]
   rw [← h1]
   by_cases h3:p.1<=q.1<;>by_cases h4:q.2<=p.2
   ·simp [h3,h4,show q.1<=p.2 by omega,show p.1<=q.2 by omega]
   ·simp [h3,h4]
   ·simp [h3,h4]
   ·simp [h3,h4]
theorem LU {a b:List (Int×Int)} (h:a.length=b.length) (hl:a.length<=1000) (hb:∀ p∈b,PairOk p):cvF xZ [wishD a,wishD b]=some (.bl (covB a b)):=by
 refine uq rfl λKE k1 _=>?_
 rw [Ag]
 refine sH ?_;rintro K hK -
 simp
 refine tU b pairD (λ_=>true) (λq=>.int q.1) ?_
 simp [wishD]
 refine ⟨by omega,hK _ ?_⟩
 refine sH ?_;rintro K hK -
 simp
 refine tU b pairD (λ_=>true) (λq=>.int q.2) ?_
 simp
 refine ⟨by omega,hK _ ?_⟩
 have e1:=wt (w:=a) (l:=b.map (·.1)) (by simpa using h) hl
 have e2:=wt (w:=a) (l:=b.map (·.2)) (by simpa using h) hl
 simp [wishD,letD,comp_def] at e1 e2
 simp [e1]
 have:=Jx (a:=a) hb
 split
 ·rename_i h1
  simp [e2]
  rw [h1] at this
  simp at this
  rw [this]
  exact k1 _ ⟨_,rfl⟩
 ·rename_i h1
  have h1:hasB a (b.map (·.1))=false:=by simpa using h1
  rw [h1] at this
  simp at this
  rw [this] at k1
  exact k1 _ ⟨_,rfl⟩
noncomputable def lettersB (w:List (Int×Int)) (ae:List (List Int)):List (List Int):=w.foldl (λae p=>ae.flatMap λl=>(range (p.2+1 - p.1).toNat).map λk:Nat=>l++[p.1+(k:Int)]) ae
theorem Lq {ae:List (List Int)}{n:Nat}{lo:Int}:(ae.flatMap λl=>(range n).map λk:Nat=>l++[lo+(k:Int)]).length=ae.length*n:=by
 induction ae with
 | nil=>simp
 | cons l ae ih=>rw [flatMap_cons,length_append,ih];simp [Nat.succ_mul];omega
theorem Cv {xs:List Nat}{m:Nat} (h:∀ x∈xs,x<=m):xs.sum<=xs.length*m:=by
 induction xs with
 | nil=>simp
 | cons x xs ih =>
  have h1:=h x mem_cons_self
  have h2:=ih λx hx=>h x (mem_cons_of_mem _ hx)
  rw [sum_cons,length_cons,Nat.succ_mul]
  omega
theorem Mw {w:List (Int×Int)} (hw:∀ p∈w,PairOk p) (hl:w.length<=3):cvF xR [wishD w]=some (.lst ((lettersB w [[]]).map letD)):=by
 refine uq rfl λKE k1 _=>?_
 rw [zl]
 refine sH ?_;rintro K hK -
 simp
 refine hK _ ?_
 refine sH ?_;rintro K hK -
 simp [wishD]
 refine ua (J:=λi Y=>∃ (ae:List (List Int)) (x y z u:Option R),ae.length<=10 ^ i/\(∀ l∈ae,l.length=i)/\lettersB w [[]]=lettersB (w.drop i) ae/\Y=[some (.val (wishD w)),some (.val (.lst (ae.map letD))),x,y,z,u]) ⟨[[]],_,_,_,_,by simp,by simp,rfl,rfl⟩ ?_ ?_
 ·rintro i d Y hd ⟨ae,x,y,z,u,ha,hb,he,rfl⟩ KL aN - - -
  rw [getElem?_map,map_eq_some_iff] at hd
  obtain ⟨p,hp,rfl⟩:=hd
  obtain ⟨hi,qO⟩:=List.getElem?_eq_some_iff.mp hp
  have dN:=hw p (mem_of_getElem? hp)
  have hn:(p.2+1 - p.1).toNat<=10:=by have:=dN.lo;have:=dN.hi;omega
  have se:ae.length<=100:=le_trans ha (le_trans (Nat.pow_le_pow_right (by omega) (show i<=2 by omega)) (by omega))
  simp [pairD]
  refine sH ?_;rintro K hK -
  simp
  refine hK _ ?_
  refine sH ?_;rintro K hK -
  simp
  refine ua (J:=λj Y=>∃ (u:Option R),Y=[some (.val (wishD w)),some (.val (.lst (ae.map letD))),some (.val (.int p.1)),some (.val (.int p.2)),some (.own (((ae.take j).flatMap λl=>(range (p.2+1 - p.1).toNat).map λk:Nat=>l++[p.1+(k:Int)]).map letD)),u]) ⟨_,rfl⟩ ?_ ?_
  ·rintro j d Y hd ⟨u,rfl⟩ KL aN - - -
   rw [getElem?_map,map_eq_some_iff] at hd
   obtain ⟨l,hl,rfl⟩:=hd
   simp [isMut,R.mut]
   refine tU (range (p.2+1 - p.1).toNat) (λk:Nat=>.int (p.1+(k:Int))) (λ_=>true) (λk=>letD (l++[p.1+(k:Int)])) ?_
   simp [letD,rngD]
   have sf:=hb l (mem_of_getElem? hl)
   have hs:(List.take j (map (λa=>(p.2+1 - p.1).toNat) ae)).sum<=1000:=by
    refine le_trans (Cv (m:=10) λx hx=>?_) ?_
    ·have:=mem_of_mem_take hx
     simp at this
     omega
    ·simp
     omega
   refine ⟨by have:=dN.lo;have:=dN.hi;have:=dN.le;omega,by omega,λx _=>by omega,by omega,aN _ ⟨some (.val (letD l)),?_⟩⟩
   ·have:ae.take (j+1)=ae.take j++[l]:=by
     rw [take_succ,hl];rfl
    rw [this]
    simp [letD,comp_def]
  ·rintro Y ⟨u,rfl⟩
   refine hK _ ?_
   simp
   refine aN _ ⟨_,_,_,_,_,?_,?_,?_,rfl⟩
   ·rw [Lq,Nat.pow_succ]
    exact Nat.mul_le_mul ha hn
   ·intro l hl
    simp at hl
    obtain ⟨l',h1,k,h2,rfl⟩:=hl
    simp [hb l' h1]
   ·rw [he,drop_eq_getElem_cons hi,qO]
    unfold lettersB
    rw [foldl_cons]
 ·rintro Y ⟨ae,x,y,z,u,ha,hb,he,rfl⟩
  refine hK _ ?_
  simp [lettersB] at he
  simp
  rw [← he]
  exact k1 _ ⟨_,rfl⟩
noncomputable def rngL (lo hi:Int):List Int:=(range (hi+1 - lo).toNat).map λk:Nat=>lo+(k:Int)
theorem vF {lo hi:Int} (h:hi < lo):rngL lo hi=[]:=by
 unfold rngL
 rw [show (hi+1 - lo).toNat=0 by omega]
 rfl
theorem wL {lo hi:Int} (h:lo<=hi):rngL lo hi=lo::rngL (lo+1) hi:=by
 unfold rngL
 rw [show (hi+1 - lo).toNat=(hi+1 - (lo+1)).toNat+1 by omega,range_succ_eq_map]
 simp
 intro a _
 omega
theorem HQ {lo hi n:Int}:n∈rngL lo hi↔lo<=n/\n<=hi:=by
 unfold rngL
 simp
 constructor
 ·rintro ⟨k,h1,rfl⟩;omega
 ·rintro ⟨h1,h2⟩;exact ⟨(n - lo).toNat,by omega,by omega⟩
theorem GP {a b c d:Int}:(rngL a b).filter (λn=>decide (c<=n)&&decide (n<=d))=rngL (max a c) (min b d):=by
 obtain ⟨m,hm⟩:∃ m:Nat,(b+1 - a).toNat=m:=⟨_,rfl⟩
 induction m generalizing a with
 | zero=>rw [vF (by omega),vF (by omega)];rfl
 | succ m ih =>
  rw [wL (by omega),filter_cons,ih (a:=a+1) (by omega)]
  by_cases h1:c<=a
  ·by_cases h2:a<=d
   ·rw [if_pos (by simp [h1,h2]),wL (lo:=max a c) (by omega),show max a c=a by omega,show max (a+1) c=a+1 by omega]
   ·rw [if_neg (by simp [h2]),vF (by omega),vF (by omega)]
  ·rw [if_neg (by simp [h1]),show max (a+1) c=max a c by omega]
noncomputable def lettersR:List (Int×Int)->List (List Int)
 | []=>[[]]
 | p::w=>(rngL p.1 p.2).flatMap λn=>(lettersR w).map (n::·)
theorem GJ {w:List (Int×Int)}{ae:List (List Int)}:lettersB w ae=ae.flatMap λl=>(lettersR w).map (l++·):=by
 induction w generalizing ae with
 | nil=>simp [lettersB,lettersR]
 | cons p w ih =>
  have:lettersB (p::w) ae=lettersB w (ae.flatMap λl=>(range (p.2+1 - p.1).toNat).map λk:Nat=>l++[p.1+(k:Int)]):=by simp [lettersB]
  rw [this,ih,lettersR,List.flatMap_assoc]
  congr 1
  funext l
  simp [rngL,List.flatMap_map,List.map_flatMap,comp_def]
theorem Kv {w:List (Int×Int)}:lettersB w [[]]=lettersR w:=by
 rw [GJ]
 simp
theorem uQ {w:List (Int×Int)}{l:List Int}:l∈lettersR w↔l.length=w.length/\hasB w l=true:=by
 induction w generalizing l with
 | nil=>simp [lettersR,hasB]
 | cons p w ih =>
  cases l with
  | nil=>simp [lettersR]
  | cons n l =>
   simp [lettersR,HQ,hasB] at ih ⊢
   constructor
   ·rintro ⟨h1,h2⟩
    obtain ⟨h3,h4⟩:=ih.mp h2
    exact ⟨h3,h1,h4⟩
   ·rintro ⟨h1,h2,h3⟩
    exact ⟨h2,ih.mpr ⟨h1,h3⟩⟩
noncomputable def mixB (a b:List (Int×Int)):List (Int×Int):=(a.zip b).map λq=>(max q.1.1 q.2.1,min q.1.2 q.2.2)
noncomputable def okB (w:List (Int×Int)):Bool:=w.all λp=>decide (p.1<=p.2)
theorem LQ {a b:List (Int×Int)} (h:a.length=b.length):(lettersR a).filter (hasB b)=if okB (mixB a b)=true then lettersR (mixB a b) else []:=by
 induction a generalizing b with
 | nil =>
  cases b with
  | nil=>simp [lettersR,mixB,okB,hasB]
  | cons q b=>simp at h
 | cons p a ih =>
  cases b with
  | nil=>simp at h
  | cons q b =>
   have ih:=ih (b:=b) (by simpa using h)
   have e1:((lettersR (p::a)).filter (hasB (q::b)))=((rngL p.1 p.2).filter λn=>decide (q.1<=n)&&decide (n<=q.2)).flatMap λn=>((lettersR a).filter (hasB b)).map (n::·):=by
    rw [lettersR,List.filter_flatMap]
    generalize rngL p.1 p.2=ns
    induction ns with
    | nil=>rfl
    | cons n ns ihn =>
     rw [flatMap_cons,ihn,filter_cons]
     by_cases hq:q.1<=n/\n<=q.2
     ·rw [if_pos (by simp [hq]),flatMap_cons]
      congr 1
      rw [List.filter_map]
      congr 2
      funext l
      simp [hasB,hq]
     ·rw [if_neg (by simpa using hq)]
      have:(List.filter (hasB (q::b)) ((lettersR a).map (n::·)))=[]:=by
       rw [filter_eq_nil_iff]
       intro l hl
       simp at hl
       obtain ⟨l',_,rfl⟩:=hl
       simp [hasB]
       intro h1 h2
       omega
      rw [this,nil_append]
   rw [e1,GP,ih]
   have e2:mixB (p::a) (q::b)=(max p.1 q.1,min p.2 q.2)::mixB a b:=by simp [mixB]
   rw [e2]
   have e3:okB ((max p.1 q.1,min p.2 q.2)::mixB a b)=(decide (max p.1 q.1<=min p.2 q.2)&&okB (mixB a b)):=by simp only [okB,all_cons]
   rw [e3]
   by_cases h1:okB (mixB a b)=true
   ·rw [if_pos h1]
    by_cases h2:max p.1 q.1<=min p.2 q.2
    ·rw [if_pos (by rw [h1];simpa using h2),lettersR]
    ·rw [if_neg (by rw [h1];simpa using h2),vF (by omega)]
     rfl
   ·rw [if_neg h1,if_neg (by simp [h1])]
    simp
theorem JZ {a b:List (Int×Int)} (h:a.length=b.length) (hl:a.length<=1000):cvF xF [wishD a,wishD b]=some (if okB (mixB a b)=true then wishD (mixB a b) else .non):=by
 refine uq rfl λKE k1 _=>?_
 rw [zD]
 refine sH ?_;rintro K hK -
 simp [wishD,Ap,h]
 refine hK _ ?_
 refine sH ?_;rintro K hK -
 simp
 refine hK _ ?_
 refine sH ?_;rintro K hK hR
 simp [xO]
 refine ua (J:=λi Y=>∃ x3 x4 x5 x6,okB ((mixB a b).take i)=true/\Y=[some (.val (wishD a)),some (.val (wishD b)),some (.own (((mixB a b).take i).map pairD)),x3,x4,x5,x6]) ⟨_,_,_,_,rfl,rfl⟩ ?_ ?_
 ·rintro i d Y hd ⟨x3,x4,x5,x6,ho,rfl⟩ KL aN - - fP
  rw [getElem?_map,map_eq_some_iff] at hd
  obtain ⟨q,hq,rfl⟩:=hd
  obtain ⟨hi,gw⟩:=List.getElem?_eq_some_iff.mp hq
  have hm:(mixB a b)[i]?=some (max q.1.1 q.2.1,min q.1.2 q.2.2):=by unfold mixB;rw [getElem?_map,hq];rfl
  simp
  refine sH ?_;rintro K hK -
  simp
  refine hK _ ?_
  refine sH ?_;rintro K hK -
  simp
  refine hK _ ?_
  refine sH ?_;rintro K hK hZ
  simp
  split
  ·rename_i sj
   have:okB (mixB a b)=false:=by
    rw [← Bool.not_eq_true]
    intro gf
    have:=all_eq_true.mp gf _ (mem_of_getElem? hm)
    simp only [decide_eq_true_eq] at this
    omega
   rw [this] at k1
   exact hZ _ _ (fP _ _ (hR _ _ (k1 _ ⟨_,rfl⟩)))
  ·rename_i sk
   refine hK _ ?_
   simp [isMut,R.mut]
   have aJ:(mixB a b).length=min a.length b.length:=by simp [mixB]
   have eM:(mixB a b).take (i+1)=(mixB a b).take i++[(max q.1.1 q.2.1,min q.1.2 q.2.2)]:=by rw [take_succ,hm];rfl
   refine ⟨by omega,aN _ ⟨some (.val (pairD q.1)),some (.val (pairD q.2)),some (.val (.int (max q.1.1 q.2.1))),some (.val (.int (min q.1.2 q.2.2))),?_,?_⟩⟩
   ·rw [eM]
    unfold okB at ho ⊢
    rw [List.all_append,ho]
    simp only [all_cons,List.all_nil,Bool.and_true,Bool.true_and,decide_eq_true_eq]
    omega
   ·rw [eM,map_append]
    simp [pairD,wishD]
 ·rintro Y ⟨x3,x4,x5,x6,ho,rfl⟩
  refine hK _ ?_
  have aJ:(mixB a b).length=(a.zip b).length:=by simp [mixB]
  rw [length_map,← aJ,take_length] at ho ⊢
  simp
  rw [if_pos ho] at k1
  exact k1 _ ⟨_,rfl⟩
theorem AW (p:Int×Int):ltP p p=false:=by simp [ltP]
theorem Dh {p q:Int×Int}:ltP p q=true↔p.1 < q.1\/(p.1=q.1/\p.2 < q.2):=by
 unfold ltP
 by_cases a:p.1=q.1
 ·simp [a]
 ·rw [if_neg (by simpa using a)]
  simp [a]
theorem Hi {p q r:Int×Int} (h1:ltP p q=true) (h2:ltP q r=true):ltP p r=true:=by
 rw [Dh] at *
 omega
theorem EB (ps:List (Int×Int)):∀ k i,i<=k->btP ps i (PySem.argBest (btP ps) k)=false
 | 0,i,h=>by
  obtain rfl:i=0:=by omega
  exact AW _
 | k+1,i,h=>by
  have ih:=EB ps k
  rw [PySem.argBest]
  split
  ·rename_i lt
   rcases lt_or_ge k i with g | g
   ·obtain rfl:i=k+1:=by omega
    exact AW _
   ·have:=ih i g
    by_cases z:btP ps i (k+1)=true
    ·rw [show btP ps i _=true from Hi z lt] at this;cases this
    ·simpa using z
  ·rename_i mG
   rcases lt_or_ge k i with g | g
   ·obtain rfl:i=k+1:=by omega
    simpa using mG
   ·exact ih i g
theorem HS {ps:List (Int×Int)} (h:ps≠[]):minP ps∈ps/\∀ q∈ps,ltP q (minP ps)=false:=by
 have pos:0 < ps.length:=length_pos_iff.mpr h
 have low:=A2 (btP ps) (ps.length - 1)
 constructor
 ·unfold minP
  rw [getD_eq_getElem?_getD,getElem?_eq_getElem (by omega)]
  exact getElem_mem _
 ·intro q hq
  obtain ⟨i,hi,rfl⟩:=getElem_of_mem hq
  have:=EB ps (ps.length - 1) i (by omega)
  unfold btP at this
  rw [getD_eq_getElem?_getD,getElem?_eq_getElem hi] at this
  exact this
noncomputable def leftB (ws:List (List (Int×Int))) (l:List Int):Bool:=ws.all λw=>!hasB w l
noncomputable def firstL (ws:List (List (Int×Int))) (p:List (Int×Int)):Option (List Int):=(lettersR p).find? (leftB ws)
theorem wm (a b:List (Int×Int)):lettersR (a++b)=(lettersR a).flatMap λl=>(lettersR b).map (l++·):=by
 induction a with
 | nil=>simp [lettersR]
 | cons p a ih =>
  rw [List.cons_append,lettersR,ih,lettersR,List.flatMap_assoc]
  congr 1
  funext n
  simp [List.map_flatMap,List.flatMap_map,comp_def]
theorem AA {w:List (Int×Int)} (h:okB w=true):∃ t,lettersR w=w.map (·.1)::t:=by
 induction w with
 | nil=>exact ⟨[],rfl⟩
 | cons p w ih =>
  simp only [okB,all_cons,and_eq_true,decide_eq_true_eq] at h
  obtain ⟨t,e⟩:=ih (by simpa [okB] using h.2)
  rw [lettersR,wL h.1,flatMap_cons,e]
  simp
theorem Hl {lo a hi:Int} (h1:lo<=a) (h2:a<=hi):rngL lo hi=rngL lo a++rngL (a+1) hi:=by
 obtain ⟨m,hm⟩:∃ m:Nat,(a+1 - lo).toNat=m:=⟨_,rfl⟩
 induction m generalizing lo with
 | zero=>omega
 | succ m ih =>
  rw [wL (by omega:lo<=hi),wL h1]
  by_cases z:lo=a
  ·subst z
   rw [vF (by omega:lo < lo+1)]
   rfl
  ·rw [ih (lo:=lo+1) (by omega) (by omega)]
   rfl
theorem Dl {lo a hi:Int}{q:List (Int×Int)} (h1:lo<=a) (h2:a<=hi):lettersR ((lo,hi)::q)=lettersR ((lo,a)::q)++lettersR ((a+1,hi)::q):=by
 simp only [lettersR]
 rw [Hl h1 h2,List.flatMap_append]
theorem G3 {pre q:List (Int×Int)}{P P':List Int->Bool} (ok:okB pre=true) (h:∀ a∈lettersR pre,∀ x∈lettersR q,P (a++x)=P' x):(lettersR (pre++q)).find? P=((lettersR q).find? P').map (pre.map (·.1)++·):=by
 obtain ⟨t,e⟩:=AA ok
 rw [wm]
 cases f:(lettersR q).find? P' with
 | none =>
  rw [find?_eq_none] at f
  simp only [Option.map_none,find?_eq_none]
  intro y hy
  rw [mem_flatMap] at hy
  obtain ⟨a,ha,hy⟩:=hy
  rw [mem_map] at hy
  obtain ⟨x,hx,rfl⟩:=hy
  rw [h a ha x hx]
  exact f x hx
 | some x =>
  rw [e,flatMap_cons,List.find?_append,List.find?_map]
  have:(lettersR q).find? (P∘(pre.map (·.1)++·))=(lettersR q).find? P':=by
   have hx:∀ x∈lettersR q,P (pre.map (·.1)++x)=P' x:=λx hx=>h _ (by rw [e];exact mem_cons_self) x hx
   generalize lettersR q=Q at hx
   induction Q with
   | nil=>rfl
   | cons y Q ih =>
    rw [List.find?_cons,List.find?_cons,ih λx gB=>hx x (mem_cons_of_mem _ gB)]
    rw [show (P∘(pre.map (·.1)++·)) y=P' y from hx y mem_cons_self]
  rw [this,f]
  rfl
theorem Hk {a b:List (Int×Int)}{x y:List Int} (h:a.length=x.length):hasB (a++b) (x++y)=(hasB a x&&hasB b y):=by
 unfold hasB
 rw [List.zip_append h,List.all_append]
theorem My (a b:List (Int×Int)):mixB a b=mixB b a:=by
 unfold mixB
 induction a generalizing b with
 | nil=>simp
 | cons p a ih =>
  cases b with
  | nil=>simp
  | cons q b =>
   simp only [zip_cons_cons,map_cons]
   rw [ih b,Int.max_comm,Int.min_comm]
theorem LY {w p:List (Int×Int)} (h:w.length=p.length) (no:okB (mixB w p)=false):∀ l∈lettersR p,hasB w l=false:=by
 have:=LQ h.symm
 rw [My,no] at this
 simp only [false_eq_true,if_false] at this
 intro l hl
 have:=filter_eq_nil_iff.mp this l hl
 simpa using this
theorem Cu {w p:List (Int×Int)} (h:w.length=p.length) (c:covB w p=true):∀ l∈lettersR p,hasB w l=true:=by
 intro l hl
 obtain ⟨h1,h2⟩:=uQ.mp hl
 clear hl
 induction w generalizing p l with
 | nil=>simp [hasB]
 | cons a w ih =>
  cases p with
  | nil=>simp at h
  | cons b p =>
   cases l with
   | nil=>simp at h1
   | cons n l =>
    simp only [covB,hasB,zip_cons_cons,all_cons,and_eq_true,decide_eq_true_eq] at c h2 ⊢
    exact ⟨by omega,ih (by simpa using h) c.2 l (by simpa using h1) h2.2⟩
noncomputable def hv1 (p:List (Int×Int)) (f:Nat) (a:Int):List (Int×Int):=p.take f++[((p.getD f (0,0)).1,a)]++p.drop (f+1)
noncomputable def hv2 (p:List (Int×Int)) (f:Nat) (a:Int):List (Int×Int):=p.take f++[(a+1,(p.getD f (0,0)).2)]++p.drop (f+1)
theorem wU {p:List (Int×Int)}{f:Nat} (hf:f < p.length):p=p.take f++p.getD f (0,0)::p.drop (f+1):=by
 conv=>lhs;rw [← take_append_drop f p,drop_eq_getElem_cons hf]
 rw [getD_eq_getElem?_getD,getElem?_eq_getElem hf]
 rfl
theorem Hq {ws:List (List (Int×Int))}{p:List (Int×Int)}{f:Nat}{a:Int} (ok:okB p=true) (hf:f < p.length) (len:∀ w∈ws,w.length=p.length) (h1:(p.getD f (0,0)).1<=a) (h2:a<=(p.getD f (0,0)).2)
  (aT:∀ w∈ws,(∀ l∈lettersR p,hasB w l=false)\/covB (w.take f) (p.take f)=true):firstL ws p=(firstL ws (hv1 p f a)).or (firstL ws (hv2 p f a)):=by
 have qP:okB (p.take f)=true:=all_eq_true.mpr λx hx=>all_eq_true.mp ok x (mem_of_mem_take hx)
 obtain ⟨bs,hb⟩:∃ bs:List (List (Int×Int)),bs=ws.filter λw=>covB (w.take f) (p.take f):=⟨_,rfl⟩
 have aQ:∀ x∈lettersR (p.take f),∀ y:List Int,x++y∈lettersR p->leftB ws (x++y)=leftB (bs.map (·.drop f)) y:=by
  intro x hx y hy
  obtain ⟨lx,_⟩:=uQ.mp hx
  unfold leftB
  rw [hb]
  clear hb bs
  induction ws with
  | nil=>rfl
  | cons w ws ih =>
   have ih:=ih (λw hw=>len w (mem_cons_of_mem _ hw)) λw hw=>aT w (mem_cons_of_mem _ hw)
   rw [all_cons,ih,filter_cons]
   have lw:=len w mem_cons_self
   have lt:(w.take f).length=(p.take f).length:=by simp [lw]
   by_cases c:covB (w.take f) (p.take f)=true
   ·rw [if_pos c,map_cons,all_cons]
    congr 2
    conv=>lhs;rw [← take_append_drop f w]
    rw [Hk (by rw [lx,lt]),Cu lt c x hx]
    rfl
   ·rw [if_neg c]
    rcases aT w mem_cons_self with n | n
    ·rw [n _ hy];rfl
    ·exact absurd n c
 have sub:∀ q:List (Int×Int),(∀ y∈lettersR q,y∈lettersR (p.getD f (0,0)::p.drop (f+1)))->firstL ws (p.take f++q)=((lettersR q).find? (leftB (bs.map (·.drop f)))).map ((p.take f).map (·.1)++·):=by
  intro q hq
  refine G3 qP λx hx y hy=>aQ x hx y ?_
  rw [wU hf,wm,mem_flatMap]
  exact ⟨x,hx,mem_map.mpr ⟨y,hq y hy,rfl⟩⟩
 have cut:=Dl (q:=p.drop (f+1)) h1 h2
 rw [show firstL ws p=firstL ws (p.take f++p.getD f (0,0)::p.drop (f+1)) by rw [← wU hf],sub _ λy h=>h]
 unfold hv1 hv2
 rw [append_assoc,append_assoc,singleton_append,singleton_append,sub _ λy h=>by rw [show p.getD f (0,0)=((p.getD f (0,0)).1,(p.getD f (0,0)).2) from rfl,cut];exact mem_append_left _ h,
  sub _ λy h=>by rw [show p.getD f (0,0)=((p.getD f (0,0)).1,(p.getD f (0,0)).2) from rfl,cut];exact mem_append_right _ h]
 rw [show p.getD f (0,0)=((p.getD f (0,0)).1,(p.getD f (0,0)).2) from rfl,cut,List.find?_append]
 cases (lettersR (((p.getD f (0,0)).1,a)::p.drop (f+1))).find? (leftB (bs.map (·.drop f)))<;>rfl
theorem HK {p:List (Int×Int)}{f:Nat}{a:Int} (hf:f < p.length) (hl:p.length<=1000):cvF yc [wishD p,.int f,.int a]=some (.tup [wishD (hv1 p f a),wishD (hv2 p f a)]):=by
 obtain ⟨pr,hp⟩:∃ pr,p[f]?=some pr:=⟨_,getElem?_eq_getElem hf⟩
 have e0:p.getD f (0,0)=pr:=by rw [getD_eq_getElem?_getD,hp];rfl
 have e1:atI (p.map pairD) (f:Int)=some (pairD pr):=by rw [DL.uh];simp [hp]
 have e2:slF (.tup (p.map pairD)) none (some (f:Int))=some (.tup ((p.map pairD).take f)):=zQ (by simpa using hf)
 have e3:slF (.tup (p.map pairD)) (some ((f:Int)+1)) none=some (.tup ((p.map pairD).drop (f+1))):=A7 (n:=f+1) (by simp;omega) (by omega)
 refine uq rfl λKE k1 _=>?_
 rw [zO]
 refine sH ?_;rintro K hK -
 simp [wishD,e2]
 refine hK _ ?_
 refine sH ?_;rintro K hK -
 simp [e3]
 refine hK _ ?_
 refine sH ?_;rintro K hK -
 simp [e1]
 refine hK _ ?_
 refine sH ?_;rintro K hK -
 simp [e1]
 refine hK _ ?_
 simp
 refine ⟨by omega,by omega,by omega,by omega,?_⟩
 have k3:=k1 [some (.val (wishD p)),some (.val (.int f)),some (.val (.int a)),some (.val (.tup (List.take f (map pairD p)))),some (.val (.tup (List.drop (f+1) (map pairD p)))),some (.val (.int pr.1)),some (.val (.int pr.2))] ⟨_,rfl⟩
 simpa [wishD,hv1,hv2,e0,pairD,hp,map_take,map_drop] using k3
noncomputable def bdL (g:Nat) (pr wr:Int×Int):List (Int×Int):=(if pr.1 < wr.1 then [((g:Int),wr.1 - 1)] else [])++if wr.2 < pr.2 then [((g:Int),wr.2)] else []
noncomputable def bdsL (ws:List (List (Int×Int))) (p:List (Int×Int)) (g:Nat):List (Int×Int):=ws.flatMap λw=>bdL g (p.getD g (0,0)) (w.getD g (0,0))
noncomputable def bordersL (ws:List (List (Int×Int))) (p:List (Int×Int)):List (Int×Int):=(range p.length).flatMap (bdsL ws p)
theorem zH {α Z:Type}{f:α->List Z}{m:Nat}{xs:List α} (h:∀ x∈xs,(f x).length<=m):(xs.flatMap f).length<=xs.length*m:=by
 induction xs with
 | nil=>simp
 | cons x xs ih =>
  have h1:=h x mem_cons_self
  have h2:=ih λx hx=>h x (mem_cons_of_mem _ hx)
  rw [flatMap_cons,length_append,length_cons,Nat.succ_mul]
  omega
theorem CQ {g:Nat}{pr wr:Int×Int}:(bdL g pr wr).length<=2:=by
 unfold bdL
 split<;>split<;>simp
theorem K7 {L:List (Int×Int)}:prsD (L.map pairD)=some L:=by
 induction L with
 | nil=>rfl
 | cons x L ih=>simp only [map_cons,pairD,prsD] at ih ⊢;rw [ih]
theorem IK {L:List (Int×Int)} (h:L≠[]):minlF [.lst (L.map pairD)]=some (pairD (minP L)):=by
 cases L with
 | nil=>exact absurd rfl h
 | cons x L=>unfold minlF;simp only;rw [K7];rfl
theorem J8 {w:List (Int×Int)}{g:Nat} (h:g < w.length):atI (w.map pairD) (g:Int)=some (pairD (w.getD g (0,0))):=by
 rw [DL.uh,getD_eq_getElem?_getD];simp [h]
theorem FE {ws:List (List (Int×Int))}{p:List (Int×Int)} (hw:∀ w∈ws,w.length=p.length) (hp:p.length<=100) (hl:ws.length<=100) (ne:bordersL ws p≠[]):cvF xw [.lst (ws.map wishD),wishD p]=some (pairD (minP (bordersL ws p))):=by
 refine uq rfl λKE k1 _=>?_
 rw [yL]
 refine sH ?_;rintro K hK -
 simp
 refine hK _ ?_
 refine sH ?_;rintro K hK -
 simp [wishD]
 have dg:∀ i,i<=100->((range i).flatMap (bdsL ws p)).length<=20000:=λi hi=>by
  refine le_trans (zH (m:=200) λg _=>le_trans (zH (m:=2) λw _=>CQ) (by omega)) ?_
  simp
  omega
 refine ua (J:=λi Y=>∃ x3 x4 x5,Y=[some (.val (.lst (ws.map wishD))),some (.val (wishD p)),some (.own (((range i).flatMap (bdsL ws p)).map pairD)),x3,x4,x5]) ⟨_,_,_,rfl⟩ ?_ ?_
 ·rintro i d Y hd ⟨x3,x4,x5,rfl⟩ KL aN - - -
  obtain ⟨x,e1,rfl⟩:=wz hd
  rw [getElem?_map,map_eq_some_iff] at e1
  obtain ⟨pr,e1,rfl⟩:=e1
  have hi:i < p.length:=(List.getElem?_eq_some_iff.mp e1).1
  have qQ:p.getD i (0,0)=pr:=by rw [getD_eq_getElem?_getD,e1];rfl
  simp
  refine ua (J:=λj Y=>∃ x5,Y=[some (.val (.lst (ws.map wishD))),some (.val (wishD p)),some (.own (((range i).flatMap (bdsL ws p)++(ws.take j).flatMap λw=>bdL i pr (w.getD i (0,0))).map pairD)),some (.val (.int i)),some (.val (pairD pr)),x5]) ⟨x5,by simp⟩ ?_ ?_
  ·rintro j d Y hd ⟨x5,rfl⟩ KL aN - - -
   rw [getElem?_map,map_eq_some_iff] at hd
   obtain ⟨w,n5,rfl⟩:=hd
   have fQ:=hw w (mem_of_getElem? n5)
   have eM:ws.take (j+1)=ws.take j++[w]:=by rw [take_succ,n5];rfl
   have aw:=J8 (w:=w) (g:=i) (by omega)
   obtain ⟨wr,n6⟩:∃ wr,w.getD i (0,0)=wr:=⟨_,rfl⟩
   rw [n6] at aw
   have h9:(((range i).flatMap (bdsL ws p))++(ws.take j).flatMap λw=>bdL i pr (w.getD i (0,0))).length<=30000:=by
    have b1:=dg i (by omega)
    have b2:((ws.take j).flatMap λw=>bdL i pr (w.getD i (0,0))).length<=200:=le_trans (zH (m:=2) λw _=>CQ) (by simp;omega)
    rw [length_append]
    omega
   rw [eM,List.flatMap_append] at aN
   simp only [flatMap_cons,List.flatMap_nil,append_nil,n6] at aN
   generalize ((range i).flatMap (bdsL ws p))=A at aN h9 ⊢
   generalize ((ws.take j).flatMap λw=>bdL i pr (w.getD i (0,0)))=C at aN h9 ⊢
   have rC:A.length+C.length<=30000:=by simpa using h9
   simp
   refine tL (λY=>Y=[some (.val (.lst (ws.map wishD))),some (.val (wishD p)),some (.own ((A++C++if pr.1 < wr.1 then [((i:Int),wr.1 - 1)] else []).map pairD)),some (.val (.int i)),some (.val (pairD pr)),some (.val (wishD w))]) ?_ ?_
   ·rintro K hK -
    simp [isMut,R.mut,wishD,aw]
    split
    ·rename_i h
     refine ⟨by omega,hK _ ?_⟩
     simp [wishD,pairD,h]
    ·rename_i h
     refine hK _ ?_
     rw [if_neg h]
     simp [wishD]
   ·rintro Y rfl
    simp [isMut,R.mut,wishD,aw]
    split
    ·rename_i h
     refine ⟨by split<;>simp<;>omega,aN _ ⟨some (.val (wishD w)),?_⟩⟩
     unfold bdL
     rw [if_pos h]
     simp [wishD,pairD]
    ·rename_i h
     refine aN _ ⟨some (.val (wishD w)),?_⟩
     unfold bdL
     rw [if_neg h]
     simp [wishD]
  ·rintro Y ⟨x5,rfl⟩
   refine aN _ ⟨some (.val (.int i)),some (.val (pairD pr)),x5,?_⟩
   rw [length_map,take_length,List.range_succ,List.flatMap_append]
   simp [bdsL,qQ,e1]
 ·rintro Y ⟨x3,x4,x5,rfl⟩
  refine hK _ ?_
  have hn:∀ ds:List D,(numD 0 ds).length=ds.length:=by
   have:∀ (ds:List D) m,(numD m ds).length=ds.length:=λds=>by
    induction ds with
    | nil=>intro m;rfl
    | cons d ds ih=>intro m;simp [numD,ih]
   exact λds=>this ds 0
  rw [hn,length_map]
  have:=IK ne
  unfold bordersL at this k1
  simp [this]
  exact k1 _ ⟨_,rfl⟩
theorem uI {g:Nat}{pr wr x:Int×Int}:x∈bdL g pr wr↔(pr.1 < wr.1/\x=((g:Int),wr.1 - 1))\/(wr.2 < pr.2/\x=((g:Int),wr.2)):=by
 unfold bdL
 rw [mem_append]
 constructor
 ·rintro (h | h)
  ·split at h
   ·exact .inl ⟨‹_›,by simpa using h⟩
   ·simp at h
  ·split at h
   ·exact .inr ⟨‹_›,by simpa using h⟩
   ·simp at h
 ·rintro (⟨h,rfl⟩ | ⟨h,rfl⟩)
  ·exact .inl (by rw [if_pos h];simp)
  ·exact .inr (by rw [if_pos h];simp)
theorem zN {ws:List (List (Int×Int))}{p:List (Int×Int)}{x:Int×Int}:x∈bordersL ws p↔∃ g,g < p.length/\∃ w∈ws,x∈bdL g (p.getD g (0,0)) (w.getD g (0,0)):=by
 unfold bordersL bdsL
 simp only [mem_flatMap,mem_range]
theorem zT {p:List (Int×Int)}{g:Nat} (h:g < p.length):p[g]?=some (p.getD g (0,0)):=by
 rw [getD_eq_getElem?_getD,getElem?_eq_getElem h];rfl
theorem Ii {w p:List (Int×Int)} (h:w.length=p.length) (ok:okB (mixB w p)=true){g:Nat} (hg:g < p.length):max (w.getD g (0,0)).1 (p.getD g (0,0)).1<=min (w.getD g (0,0)).2 (p.getD g (0,0)).2:=by
 have e:(mixB w p)[g]?=some (max (w.getD g (0,0)).1 (p.getD g (0,0)).1,min (w.getD g (0,0)).2 (p.getD g (0,0)).2):=by
  unfold mixB
  rw [getElem?_map,List.getElem?_zip_eq_some (z:=(w.getD g (0,0),p.getD g (0,0))) |>.mpr ⟨zT (by omega),zT hg⟩]
  rfl
 have:=all_eq_true.mp ok _ (mem_of_getElem? e)
 simpa using this
theorem A0 {w p:List (Int×Int)} (h:w.length=p.length) (k:∀ g,g < p.length->(w.getD g (0,0)).1<=(p.getD g (0,0)).1/\(p.getD g (0,0)).2<=(w.getD g (0,0)).2):covB w p=true:=by
 unfold covB
 rw [all_eq_true]
 intro q hq
 obtain ⟨i,hi,rfl⟩:=getElem_of_mem hq
 rw [length_zip] at hi
 have:=k i (by omega)
 rw [List.getElem_zip]
 rw [getD_eq_getElem?_getD,getD_eq_getElem?_getD,getElem?_eq_getElem (by omega),getElem?_eq_getElem (by omega)] at this
 simpa using this
theorem GK {ws:List (List (Int×Int))}{p:List (Int×Int)} (len:∀ w∈ws,w.length=p.length) (ne:ws≠[]) (qR:∀ w∈ws,okB (mixB w p)=true) (no:∀ w∈ws,covB w p=false) :
  bordersL ws p≠[]/\∃ (f:Nat) (a:Int),minP (bordersL ws p)=((f:Int),a)/\f < p.length/\(p.getD f (0,0)).1<=a/\a < (p.getD f (0,0)).2/\∀ w∈ws,covB (w.take f) (p.take f)=true:=by
 have one:bordersL ws p≠[]:=by
  obtain ⟨w,hw⟩:=List.exists_mem_of_ne_nil ws ne
  intro ic
  have c:=A0 (len w hw) λg hg=>by
   have h0:=λx hx=>(zN (ws:=ws) (p:=p) (x:=x)).mpr ⟨g,hg,w,hw,hx⟩
   rw [ic] at h0
   refine ⟨Int.not_lt.mp λlt=>?_,Int.not_lt.mp λlt=>?_⟩
   ·exact absurd (h0 _ (uI.mpr (.inl ⟨lt,rfl⟩))) not_mem_nil
   ·exact absurd (h0 _ (uI.mpr (.inr ⟨lt,rfl⟩))) not_mem_nil
  rw [no w hw] at c
  cases c
 refine ⟨one,?_⟩
 obtain ⟨m1,m2⟩:=HS one
 generalize minP (bordersL ws p)=m at m1 m2
 obtain ⟨f,hf,w,hw,hm⟩:=zN.mp m1
 have mx:=Ii (len w hw) (qR w hw) hf
 refine ⟨f,m.2,?_,hf,?_⟩
 ·rcases uI.mp hm with ⟨_,rfl⟩ | ⟨_,rfl⟩<;>rfl
 ·have sn:m.1=f:=by rcases uI.mp hm with ⟨_,rfl⟩ | ⟨_,rfl⟩<;>rfl
  refine ⟨?_,?_,λv hv=>?_⟩
  ·rcases uI.mp hm with ⟨h,rfl⟩ | ⟨h,rfl⟩<;>(dsimp only;omega)
  ·rcases uI.mp hm with ⟨h,rfl⟩ | ⟨h,rfl⟩<;>(dsimp only;omega)
  ·refine A0 (by simp [len v hv]) λg hg=>?_
   rw [length_take] at hg
   have e:∀ u:List (Int×Int),(u.take f).getD g (0,0)=u.getD g (0,0):=λu=>by
    rw [getD_eq_getElem?_getD,getD_eq_getElem?_getD,List.getElem?_take_of_lt (by omega)]
   rw [e,e]
   have eV:∀ x,x∈bdL g (p.getD g (0,0)) (v.getD g (0,0))->False:=λx hx=>by
    have:=m2 x (zN.mpr ⟨g,by omega,v,hv,hx⟩)
    have x1:x.1=g:=by rcases uI.mp hx with ⟨_,rfl⟩ | ⟨_,rfl⟩<;>rfl
    have:¬ ltP x m=true:=by rw [this];simp
    rw [Dh] at this
    omega
   exact ⟨Int.not_lt.mp λlt=>eV _ (uI.mpr (.inl ⟨lt,rfl⟩)),Int.not_lt.mp λlt=>eV _ (uI.mpr (.inr ⟨lt,rfl⟩))⟩
inductive Tr where
 | byK (k:Nat)
 | cut (f:Nat) (a:Int) (l r:Tr)
noncomputable def trD:Tr->D
 | .byK k=>.tup [.str "by", .int k]
 | .cut f a l r=>.tup [.str "cut", .int f,.int a,trD l,trD r]
noncomputable def Tr.deep:Tr->Nat
 | .byK _=>0
 | .cut _ _ l r=>max l.deep r.deep+1
def GoodT (ws:List (List (Int×Int))):Tr->List (Int×Int)->Prop
 | .byK k,p=>∃ w,ws[k]?=some w/\covB w p=true
 | .cut f a l r,p=>f < p.length/\(p.getD f (0,0)).1<=a/\a < (p.getD f (0,0)).2/\GoodT ws l (hv1 p f a)/\GoodT ws r (hv2 p f a)
def RightD (ws:List (List (Int×Int))) (p:List (Int×Int)) (m:Nat) (d:D):Prop:=(∃ l,firstL ws p=some l/\d=.tup [.str "out", letD l])\/∃ t,firstL ws p=none/\GoodT ws t p/\t.deep<=m/\d=.tup [.str "in", trD t]
noncomputable def sizeP (p:List (Int×Int)):Nat:=(p.map λq=>(q.2 - q.1).toNat).sum
theorem E4 {p:List (Int×Int)}{f:Nat}{a:Int} (hf:f < p.length) (h1:(p.getD f (0,0)).1<=a) (h2:a < (p.getD f (0,0)).2):sizeP (hv1 p f a) < sizeP p/\sizeP (hv2 p f a) < sizeP p:=by
 have e:=wU hf
 generalize p.getD f (0,0)=pr at *
 have s:sizeP p=sizeP (p.take f)+((pr.2 - pr.1).toNat+sizeP (p.drop (f+1))):=by
  conv=>lhs;rw [e]
  simp [sizeP]
 unfold hv1 hv2
 rw [s]
 have e1:p.getD f (0,0)=pr:=by
  conv=>lhs;rw [e]
  rw [getD_eq_getElem?_getD,getElem?_append_right (by simp;omega)]
  simp [Nat.min_eq_left (le_of_lt hf)]
 rw [e1]
 simp [sizeP]
 omega
theorem Wf.cut {n:Nat}{p:List (Int×Int)}{f:Nat}{a:Int} (hp:Wf n p) (hf:f < p.length) (h1:(p.getD f (0,0)).1<=a) (h2:a < (p.getD f (0,0)).2):Wf n (hv1 p f a)/\Wf n (hv2 p f a):=by
 have pr:PairOk (p.getD f (0,0)):=hp.all _ (mem_of_getElem? (zT hf))
 have:=pr.lo;have:=pr.hi;have:=hp.len
 constructor
 ·refine ⟨by simp [hv1];omega,λq hq=>?_⟩
  unfold hv1 at hq
  rw [mem_append,mem_append,mem_singleton] at hq
  rcases hq with (h | rfl) | h
  ·exact hp.all q (mem_of_mem_take h)
  ·exact ⟨pr.lo,h1,by dsimp only;omega⟩
  ·exact hp.all q (mem_of_mem_drop h)
 ·refine ⟨by simp [hv2];omega,λq hq=>?_⟩
  unfold hv2 at hq
  rw [mem_append,mem_append,mem_singleton] at hq
  rcases hq with (h | rfl) | h
  ·exact hp.all q (mem_of_mem_take h)
  ·exact ⟨by dsimp only;omega,by dsimp only;omega,pr.hi⟩
  ·exact hp.all q (mem_of_mem_drop h)
theorem Wf.ok {n:Nat}{p:List (Int×Int)} (hp:Wf n p):okB p=true:=all_eq_true.mpr λq hq=>by simpa using (hp.all q hq).le
theorem Hg {p:List (Int×Int)}{f:Nat}{a:Int} (hf:f < p.length) (h1:(p.getD f (0,0)).1<=a) (h2:a < (p.getD f (0,0)).2):∀ l,l∈lettersR (hv1 p f a)\/l∈lettersR (hv2 p f a)->l∈lettersR p:=by
 intro l hl
 have cut:=Dl (q:=p.drop (f+1)) h1 (Int.le_of_lt h2)
 rw [show lettersR p=lettersR (p.take f++p.getD f (0,0)::p.drop (f+1)) by rw [← wU hf],wm,mem_flatMap]
 rw [show p.getD f (0,0)=((p.getD f (0,0)).1,(p.getD f (0,0)).2) from rfl,cut]
 rcases hl with hl | hl
 ·unfold hv1 at hl
  rw [append_assoc,singleton_append,wm,mem_flatMap] at hl
  obtain ⟨x,hx,hl⟩:=hl
  obtain ⟨y,hy,rfl⟩:=mem_map.mp hl
  exact ⟨x,hx,mem_map.mpr ⟨y,mem_append_left _ hy,rfl⟩⟩
 ·unfold hv2 at hl
  rw [append_assoc,singleton_append,wm,mem_flatMap] at hl
  obtain ⟨x,hx,hl⟩:=hl
  obtain ⟨y,hy,rfl⟩:=mem_map.mp hl
  exact ⟨x,hx,mem_map.mpr ⟨y,mem_append_right _ hy,rfl⟩⟩
noncomputable def wAt (ws:List (List (Int×Int))) (k:Nat):List (Int×Int):=ws.getD k []
theorem v4 {ws:List (List (Int×Int))}{k:Nat} (h:k < ws.length):wAt ws k=ws[k]:=by
 unfold wAt
 rw [getD_eq_getElem?_getD,getElem?_eq_getElem h];rfl
theorem AH {ws:List (List (Int×Int))}{k:Nat} (h:k < ws.length):atI (ws.map wishD) (k:Int)=some (wishD (wAt ws k)):=by
 rw [DL.uh,v4 h];simp [h]
theorem DK {ws:List (List (Int×Int))}{k:Nat} (h:k < ws.length):wAt ws k∈ws:=by
 rw [v4 h];exact getElem_mem _
theorem BL {n:Nat}{ws:List (List (Int×Int))} (hw:∀ w∈ws,Wf n w) (hl:ws.length<=100) (hn:n<=100):∀ (m:Nat) (ks:List Nat) (p:List (Int×Int)),Wf n p->sizeP p < m->(∀ k∈ks,k < ws.length)->ks.length<=100 →
  (∀ k,k < ws.length->k∉ks->∀ l∈lettersR p,hasB (wAt ws k) l=false)->∃ d,cvF (u6 m) [.lst (ws.map wishD),.lst (ks.map λk:Nat=>.int k),wishD p]=some d/\RightD ws p (sizeP p) d
 | 0,ks,p,hp,hs,_,_,_=>absurd hs (not_lt_zero _)
 | m+1,ks,p,hp,hs,hk,hkl,eV=>by
  have ih:=BL hw hl hn m
  have cD:∀ k,k < ws.length->(wAt ws k).length=p.length:=λk h=>by rw [(hw _ (DK h)).len,hp.len]
  have n8:p.length<=100:=by rw [hp.len];exact hn
  have aQ:wpF (u6 (m+1)) [.val (.lst (ws.map wishD)),.val (.lst (ks.map λk:Nat=>.int k)),.val (wishD p)] λr _=>∃ d,r=.val d/\RightD ws p (sizeP p) d:=by
   rw [u6]
   refine tZ rfl λKE hE _=>?_
   rw [w8]
   refine sH ?_;rintro K hK -
   simp
   refine tU ks (λk:Nat=>.int k) (λk=>okB (mixB (wAt ws k) p)) (λk:Nat=>.int k) ?_
   simp
   refine ⟨by omega,λk ig=>?_,hK _ ?_⟩
   ·have e1:=AH (hk k ig)
    have e2:=JZ (cD k (hk k ig)) (by rw [cD k (hk k ig)];omega)
    simp [e1,e2]
    split<;>simp [isN,wishD, *]
   ·clear hK
    obtain ⟨aT,dO⟩:∃ aT,aT=ks.filter λk=>okB (mixB (wAt ws k) p):=⟨_,rfl⟩
    rw [← dO]
    have bX:∀ k,k∈aT↔k∈ks/\okB (mixB (wAt ws k) p)=true:=λk=>by rw [dO,mem_filter]
    have fo:aT.length<=100:=by rw [dO];exact le_trans (length_filter_le _ _) hkl
    have fD:∀ k,k < ws.length->k∉aT->∀ l∈lettersR p,hasB (wAt ws k) l=false:=λk h1 h2=>by
     by_cases h3:k∈ks
     ·refine LY (cD k h1) ?_
      rw [bX] at h2
      simpa [h3] using h2
     ·exact eV k h1 h3
    clear dO
    refine sH ?_;rintro K hK hR
    simp
    split
    ·-- nothing is aT
     rename_i h0
     have h0:aT=[]:=by simpa using h0
     simp [wishD]
     refine tU p pairD (λ_=>true) (λq=>.int q.1) ?_
     simp
     refine ⟨by omega,hR _ _ (hE _ _ ⟨_,rfl,_,rfl,.inl ⟨p.map (·.1),?_,?_⟩⟩)⟩
     ·obtain ⟨t,e⟩:=AA hp.ok
      unfold firstL
      rw [e,List.find?_cons_of_pos]
      unfold leftB
      rw [all_eq_true]
      intro w fQ
      obtain ⟨k,h1,rfl⟩:=getElem_of_mem fQ
      have:=fD k h1 (by rw [h0];simp) (p.map (·.1)) (by rw [e];exact mem_cons_self)
      rw [v4 h1] at this
      simpa using this
     ·simp [letD,comp_def]
    ·rename_i h0
     refine hK _ ?_
     have h0:aT≠[]:=by simpa using h0
     refine sH ?_;rintro K hK hR
     simp
     refine ua (J:=λi Y=>∃ x4,(∀ k∈aT.take i,covB (wAt ws k) p=false)/\Y=[some (.val (.lst (ws.map wishD))),some (.val (.lst (ks.map λk:Nat=>.int k))),some (.val (wishD p)),some (.val (.lst (aT.map λk:Nat=>.int k))),x4,none,none,none,none]) ⟨none,by simp,rfl⟩ ?_ ?_
     ·rintro i d Y hd ⟨x4,hc,rfl⟩ KL aN - - fP
      rw [getElem?_map,map_eq_some_iff] at hd
      obtain ⟨k,n9,rfl⟩:=hd
      have jd:=(bX k).mp (mem_of_getElem? n9)
      have dh:=hk k jd.1
      have e1:=AH dh
      have e2:=Ec (cD k dh) (by rw [cD k dh];omega)
      have eM:aT.take (i+1)=aT.take i++[k]:=by rw [take_succ,n9];rfl
      simp [e1,e2]
      split
      ·rename_i dr
       have dr:covB (wAt ws k) p=true:=by simpa using dr
       refine fP _ _ (hR _ _ (hE _ _ ⟨_,rfl,_,rfl,.inr ⟨.byK k,?_,⟨wAt ws k,?_,dr⟩,zero_le _,?_⟩⟩))
       ·unfold firstL
        rw [find?_eq_none]
        intro l qS
        unfold leftB
        intro all
        have:=all_eq_true.mp all _ (DK dh)
        rw [Cu (cD k dh) dr l qS] at this
        cases this
       ·rw [v4 dh,getElem?_eq_getElem dh]
       ·rw [trD]
      ·rename_i dr
       refine aN _ ⟨_,λk' bF=>?_,rfl⟩
       rw [eM] at bF
       rcases mem_append.mp bF with h | h
       ·exact hc k' h
       ·rw [mem_singleton.mp h]
        simpa using dr
     ·rintro Y ⟨x4,hc,rfl⟩
      refine hK _ ?_
      rw [length_map,take_length] at hc
      obtain ⟨fR,eG⟩:∃ fR,fR=aT.map λk=>wAt ws k:=⟨_,rfl⟩
      have je:∀ w∈fR,∃ k,k∈aT/\k < ws.length/\w=wAt ws k:=λw h=>by
       rw [eG,mem_map] at h
       obtain ⟨k,h1,rfl⟩:=h
       exact ⟨k,h1,hk k ((bX k).mp h1).1,rfl⟩
      obtain ⟨bne,f,a,em,hf,h1,h2,jf⟩:=GK (ws:=fR) (p:=p) (λw h=>by obtain ⟨k,_,bF,rfl⟩:=je w h;exact cD k bF) (by rw [eG];simpa using h0)
       (λw h=>by obtain ⟨k,bF,_,rfl⟩:=je w h;exact ((bX k).mp bF).2) (λw h=>by obtain ⟨k,bF,_,rfl⟩:=je w h;exact hc k bF)
      have bo:=FE (ws:=fR) (p:=p) (λw h=>by obtain ⟨k,_,bF,rfl⟩:=je w h;exact cD k bF) n8 (by rw [eG];simpa using fo) bne
      rw [em] at bo
      have ha:=HK (p:=p) (a:=a) hf (by omega)
      obtain ⟨w1,w2⟩:=hp.cut hf h1 h2
      obtain ⟨z1,z2⟩:=E4 hf h1 h2
      have sub:=Hg hf h1 h2
      have first:firstL ws p=(firstL ws (hv1 p f a)).or (firstL ws (hv2 p f a)):=Hq hp.ok hf (λw h=>by rw [(hw w h).len,hp.len]) h1 (Int.le_of_lt h2) λw h=>by
       obtain ⟨k,dh,rfl⟩:=getElem_of_mem h
       have eg:wAt ws k=ws[k]:=v4 dh
       by_cases jd:k∈aT
       ·exact .inr (jf _ (by rw [eG,mem_map];exact ⟨k,jd,eg⟩))
       ·have:=fD k dh jd
        rw [eg] at this
        exact .inl this
      obtain ⟨d1,e1,r1⟩:=ih aT (hv1 p f a) w1 (by omega) (λk h=>hk k ((bX k).mp h).1) fo λk h1 h2 l hl=>fD k h1 h2 l (sub l (.inl hl))
      obtain ⟨d2,e2,r2⟩:=ih aT (hv2 p f a) w2 (by omega) (λk h=>hk k ((bX k).mp h).1) fo λk h1 h2 l hl=>fD k h1 h2 l (sub l (.inr hl))
      refine sH ?_;rintro K hK -
      simp
      refine tU aT (λk:Nat=>.int k) (λ_=>true) (λk:Nat=>wishD (wAt ws k)) ?_
      simp
      refine ⟨by omega,λk ig=>?_,?_⟩
      ·have e1:=AH (hk k ((bX k).mp ig).1)
       simp [e1]
      ·have ew:(aT.map λk=>wishD (wAt ws k))=fR.map wishD:=by rw [eG];simp
       rw [ew]
       simp [bo]
       refine hK _ ?_
       refine sH ?_;rintro K hK -
       simp [ha]
       refine hK _ ?_
       refine sH ?_;rintro K hK -
       simp [e1]
       refine hK _ ?_
       rcases r1 with ⟨l1,f1,rfl⟩ | ⟨t1,f1,g1,sr,rfl⟩
       ·refine sH ?_;rintro K hK hZ
        simp
        exact hZ _ _ (hE _ _ ⟨_,rfl,_,rfl,.inl ⟨l1,by rw [first,f1];rfl,rfl⟩⟩)
       ·refine sH ?_;rintro K hK -
        simp
        refine hK _ ?_
        refine sH ?_;rintro K hK -
        simp [e2]
        refine hK _ ?_
        rcases r2 with ⟨l2,f2,rfl⟩ | ⟨t2,f2,g2,su,rfl⟩
        ·refine sH ?_;rintro K hK hZ
         simp
         exact hZ _ _ (hE _ _ ⟨_,rfl,_,rfl,.inl ⟨l2,by rw [first,f1,f2];rfl,rfl⟩⟩)
        ·refine sH ?_;rintro K hK -
         simp
         refine hK _ ?_
         simp
         refine hE _ _ ⟨_,rfl,_,rfl,.inr ⟨.cut f a t1 t2,by rw [first,f1,f2];rfl,⟨hf,h1,h2,g1,g2⟩,?_,by rw [trD]⟩⟩
         rw [Tr.deep]
         omega
  obtain ⟨r,aY,e,d,rfl,hR⟩:=aQ
  exact ⟨d,by unfold cvF;simp only [map];rw [e],hR⟩
theorem G' {n:Nat}{ws:List (List (Int×Int))}{p:List (Int×Int)} (hw:∀ w∈ws,Wf n w) (hl:ws.length<=100) (hn:n<=3) (hp:Wf n p):∃ d,cvF vy [.lst (ws.map wishD),wishD p]=some d/\RightD ws p 27 d:=by
 have sz:sizeP p<=27:=by
  unfold sizeP
  refine le_trans (Cv (m:=9) λx hx=>?_) ?_
  ·obtain ⟨q,hq,rfl⟩:=mem_map.mp hx
   have:=(hp.all q hq).lo;have:=(hp.all q hq).hi
   omega
  ·rw [length_map,hp.len]
   omega
 obtain ⟨d,e,r⟩:=BL hw hl (by omega) 40 (range ws.length) p hp (by omega) (λk h=>mem_range.mp h) (by simpa using hl) λk h1 h2=>absurd (mem_range.mpr h1) h2
 refine ⟨d,?_,?_⟩
 ·refine uq rfl λKE k1 _=>?_
  rw [yh]
  refine sH ?_;rintro K hK -
  have kin:cvF ur [.lst (wishD p::ws.map wishD)]=some .non:=xz (n:=n) λd hd=>by
   rcases mem_cons.mp hd with rfl | h
   ·exact ⟨p.map pairD,rfl,by simp [hp.len]⟩
   ·obtain ⟨w,fQ,rfl⟩:=mem_map.mp h
    exact ⟨w.map pairD,rfl,by simp [(hw w fQ).len]⟩
  simp [kin]
  refine ⟨by omega,hK _ ?_⟩
  have er:rngD 0 ws.length=(range ws.length).map λk:Nat=>D.int k:=by simp [rngD]
  simp [er,e]
  exact ⟨by omega,k1 _ ⟨_,rfl⟩⟩
 ·rcases r with r | ⟨t,r1,r2,r3,r4⟩
  ·exact .inl r
  ·exact .inr ⟨t,r1,r2,by omega,r4⟩
theorem DV:∀ (a b:List (Int×Int)),deqA (a.map pairD) (b.map pairD)=decide (a=b)
 | [],[]=>by simp [deqA]
 | [],q::b=>by simp [deqA]
 | p::a,[]=>by simp [deqA]
 | p::a,q::b=>by
  rw [map_cons,map_cons,deqA,DV a b]
  simp [pairD,deq,deqA,Prod.ext_iff]
  by_cases h1:p.1=q.1<;>by_cases h2:p.2=q.2<;>by_cases h3:a=b<;>simp [h1,h2,h3]
theorem vg (a b:List (Int×Int)):deq (wishD a) (wishD b)=decide (a=b):=by
 unfold wishD
 rw [deq]
 exact DV a b
theorem AL {a b:List (Int×Int)} (h:wishD a=wishD b):a=b:=by
 have:=vg a b
 rw [h,DL.wG] at this
 simpa using this.symm
theorem Dp:∀ (a b:List (Int×Int)),cmA (a.map pairD) (b.map pairD)=true
 | [],[]=>by simp [cmA]
 | [],q::b=>by simp [cmA]
 | p::a,[]=>by simp [cmA]
 | p::a,q::b=>by
  rw [map_cons,map_cons,cmA,Dp a b]
  simp [pairD,cmB,cmA]
theorem Ep (a b:List (Int×Int)):cmB (wishD a) (wishD b)=true:=by
 unfold wishD
 rw [cmB]
 exact Dp a b
theorem Dj (ws:List (List (Int×Int))):cmAll (ws.map wishD)=true:=by
 unfold cmAll
 rw [all_eq_true]
 intro a ha
 rw [all_eq_true]
 intro b hb
 obtain ⟨x,_,rfl⟩:=mem_map.mp ha
 obtain ⟨y,_,rfl⟩:=mem_map.mp hb
 exact Ep x y
theorem A':∀ a:List (Int×Int),kyA (a.map pairD)=true
 | []=>by simp [kyA]
 | p::a=>by
  rw [map_cons,kyA,A' a]
  simp [pairD,kyB,kyA]
theorem xy {f:D->Bool}{ws:List (List (Int×Int))} (h:∀ w∈ws,f (wishD w)=true):(ws.map wishD).all f=true:=by
 rw [all_eq_true]
 intro d hd
 obtain ⟨w,hw,rfl⟩:=mem_map.mp hd
 exact h w hw
theorem CG {n:Nat}{w:List (Int×Int)} (hw:Wf n w) (h:1<=n):fstT (wishD w)=true:=by
 have:=hw.len
 cases w with
 | nil=>simp at this;omega
 | cons p w=>rfl
theorem vI (ws:List (List (Int×Int))):depA (ws.map wishD)<=2:=xb λd hd=>by
 obtain ⟨w,_,rfl⟩:=mem_map.mp hd
 exact vo
theorem pull {ws:List (List (Int×Int))}:∀ (l:List D),(∀ d∈l,∃ w∈ws,d=wishD w)->∃ us:List (List (Int×Int)),l=us.map wishD/\∀ u∈us,u∈ws
 | [],_=>⟨[],rfl,λu hu=>by cases hu⟩
 | d::l,h=>by
  obtain ⟨us,e,m⟩:=pull l λd hd=>h d (mem_cons_of_mem _ hd)
  obtain ⟨w,hw,rfl⟩:=h d mem_cons_self
  refine ⟨w::us,by rw [e];rfl,λu hu=>?_⟩
  rcases mem_cons.mp hu with rfl | hu
  ·exact hw
  ·exact m u hu
theorem vW {us:List (List (Int×Int))}{w:List (Int×Int)}:wishD w∈us.map wishD↔w∈us:=by
 rw [mem_map]
 constructor
 ·rintro ⟨u,hu,e⟩
  rw [← AL e]
  exact hu
 ·exact λh=>⟨w,h,rfl⟩
theorem B8 {us:List (List (Int×Int))} (h:(us.map wishD).Nodup):us.Nodup:=by
 induction us with
 | nil=>exact nodup_nil
 | cons u us ih =>
  rw [map_cons,nodup_cons] at h
  rw [nodup_cons]
  exact ⟨λm=>h.1 (vW.mpr m),ih h.2⟩
theorem zZ (ws:List (List (Int×Int))):∃ us:List (List (Int×Int)),sortD (ws.map wishD)=us.map wishD/\(∀ u,u∈us↔u∈ws)/\us.length=ws.length:=by
 have p:=uX (ws.map wishD)
 obtain ⟨us,e,m⟩:=pull (ws:=ws) (sortD (ws.map wishD)) λd hd=>by
  obtain ⟨w,hw,rfl⟩:=mem_map.mp (p.mem_iff.mp hd)
  exact ⟨w,hw,rfl⟩
 refine ⟨us,e,λu=>⟨m u,λhu=>?_⟩,?_⟩
 ·have:=p.mem_iff.mpr (vW.mpr hu)
  rw [e] at this
  exact vW.mp this
 ·have:=p.length_eq
  rw [e] at this
  simpa using this
theorem xh (ws:List (List (Int×Int))):∃ us:List (List (Int×Int)),sortD (dd (ws.map wishD))=us.map wishD/\(∀ u,u∈us↔u∈ws)/\us.Nodup/\us.length<=ws.length:=by
 have p:=uX (dd (ws.map wishD))
 obtain ⟨us,e,m⟩:=pull (ws:=ws) (sortD (dd (ws.map wishD))) λd hd=>by
  obtain ⟨w,hw,rfl⟩:=mem_map.mp (wN (p.mem_iff.mp hd))
  exact ⟨w,hw,rfl⟩
 refine ⟨us,e,λu=>⟨m u,λhu=>?_⟩,B8 ?_,?_⟩
 ·have h1:=GO (ws.map wishD) (wishD u) (vW.mpr hu)
  obtain ⟨d,hd,q⟩:=any_eq_true.mp h1
  obtain ⟨w,hw,rfl⟩:=mem_map.mp (wN hd)
  rw [vg] at q
  simp at q
  subst q
  have:=p.mem_iff.mpr hd
  rw [e] at this
  exact vW.mp this
 ·rw [← e]
  exact p.nodup_iff.mpr (El _)
 ·have h1:=p.length_eq
  have h2:=zI (ws.map wishD)
  rw [e] at h1
  simp at h1 h2
  omega
theorem E5 {n:Nat}{ws:List (List (Int×Int))} (ak:∀ w∈ws,Wf n w) (h:(dd (ws.map wishD)).length<=18):SetOk (ws.map wishD):=by
 refine ⟨Dj ws,xy λw _=>?_,xy λw _=>rfl,le_trans (vI ws) (by omega),le_trans h (by decide)⟩
 unfold wishD
 rw [kyB]
 exact A' w
theorem Bu {n:Nat}{ws:List (List (Int×Int))} (ak:∀ w∈ws,Wf n w) (hn:1<=n) (h:(dd (ws.map wishD)).length<=18):setF [.lst (ws.map wishD)]=some (sortD (dd (ws.map wishD))) :=
 F6 (E5 ak h) h (.inr (xy λw hw=>CG (ak w hw) hn))
theorem zG {n:Nat}{ws:List (List (Int×Int))} (ak:∀ w∈ws,Wf n w) (hn:1<=n) (h:ws.length < 64):sortF [.lst (ws.map wishD)]=some (sortD (ws.map wishD)) :=
 Fp ⟨by simpa using h,Dj ws,le_trans (vI ws) (by omega),.inr (.inr (xy λw hw=>CG (ak w hw) hn))⟩
theorem xQ {as bs:List (List (Int×Int))} (h1:(as.map wishD).Pairwise λa b=>leD a b=true) (h2:(bs.map wishD).Pairwise λa b=>leD a b=true) (n1:as.Nodup) (n2:bs.Nodup) (m:∀ w,w∈as↔w∈bs):as=bs:=by
 have len:bs.length<=as.length:=by
  have:=xq bs as n2 (λw hw=>(m w).mpr hw)
  exact this
 have p:as.Perm bs:=AO as bs n1 (λw hw=>(m w).mp hw) len
 have e:as.map wishD=bs.map wishD:=xa _ _ (p.map _) h1 h2 λa ha b hb l1 l2=>by
  obtain ⟨x,_,rfl⟩:=mem_map.mp ha
  obtain ⟨y,_,rfl⟩:=mem_map.mp hb
  have c:=Ep x y
  refine wM _ _ c ?_
  rw [vP _ _ c]
  unfold leD at l1 l2
  rw [l1,l2]
  rfl
 have:∀ (as bs:List (List (Int×Int))),as.map wishD=bs.map wishD->as=bs:=by
  intro as
  induction as with
  | nil=>intro bs e;cases bs with
   | nil=>rfl
   | cons b bs=>simp at e
  | cons a as ih =>
   intro bs e
   cases bs with
   | nil=>simp at e
   | cons b bs =>
    rw [map_cons,map_cons] at e
    injection e with e1 e2
    rw [AL e1,ih bs e2]
 exact this as bs e
noncomputable def undB (us:List (List (Int×Int))) (w:List (Int×Int)):Bool:=us.any λone=>!decide (one=w)&&covB one w
theorem Ik {n:Nat}{us:List (List (Int×Int))}{w:List (Int×Int)} (ii:∀ u∈us,Wf n u) (hw:Wf n w) (hn:n<=3) (hl:us.length<=1000000):cvF w4 [.lst (us.map wishD),wishD w]=some (.bl (undB us w)):=by
 refine uq rfl λK k1 _=>?_
 rw [As]
 simp
 refine tU us wishD (λ_=>true) (λone=>.bl (!decide (one=w)&&covB one w)) ?_
 simp [vg]
 refine ⟨hl,λone ho=>⟨.inl (by have:=vo (w:=one);omega),?_⟩,?_⟩
 ·have:=Ec (a:=one) (b:=w) (by rw [(ii one ho).len,hw.len]) (by rw [(ii one ho).len];omega)
  simp [this]
  split<;>simp_all
 ·rw [Ic]
  simp
  exact k1 _ ⟨_,rfl⟩
theorem GQ {n:Nat}{ws us:List (List (Int×Int))} (ak:∀ u∈ws,Wf n u) (h1:1<=n) (hn:n<=3) (hl:ws.length<=1000000) (ij:(dd (ws.map wishD)).length<=18) (e:sortD (dd (ws.map wishD))=us.map wishD) (m:∀ u,u∈us↔u∈ws) (ul:us.length<=ws.length) :
  coF vL [.lst (ws.map wishD)]=some ((us.filter λw=>!undB us w).map wishD):=by
 refine La rfl λKE k1=>?_
 rw [yl]
 refine sH ?_;rintro K hK -
 have kin:cvF ur [.lst (ws.map wishD)]=some .non:=xz (n:=n) λd hd=>by
  obtain ⟨w,hw,rfl⟩:=mem_map.mp hd
  exact ⟨w.map pairD,rfl,by rw [length_map,(ak w hw).len]⟩
 simp [kin]
 refine hK _ ?_
 refine sH ?_;rintro K hK -
 simp [Bu ak h1 ij,e]
 refine hK _ ?_
 simp
 refine tU us wishD (λw=>!undB us w) wishD ?_
 simp
 refine ⟨by omega,λw hw=>?_,k1 _ ⟨_,rfl⟩⟩
 have ii:∀ u∈us,Wf n u:=λu hu=>ak u ((m u).mp hu)
 simp [Ik ii (ii w hw) hn (by omega)]
theorem wA {us ws:List (List (Int×Int))} (m:∀ u,u∈us↔u∈ws) (w:List (Int×Int)):undB us w=undB ws w:=by
 unfold undB
 rw [Bool.eq_iff_iff,any_eq_true,any_eq_true]
 exact ⟨λ⟨u,h,q⟩=>⟨u,(m u).mp h,q⟩,λ⟨u,h,q⟩=>⟨u,(m u).mpr h,q⟩⟩
noncomputable def lrStep (ws:List (List (Int×Int))) (ae:List (List (Int×Int))) (w:List (Int×Int)):List (List (Int×Int)):=if undB ws w=false/\w∉ae then ae++[w] else ae
theorem xI (ws:List (List (Int×Int))):∀ (ss ae:List (List (Int×Int))),ae.Nodup →
  (ss.foldl (lrStep ws) ae).Nodup/\(∀ w,w∈ss.foldl (lrStep ws) ae↔w∈ae\/(w∈ss/\undB ws w=false))/\∃ t,ss.foldl (lrStep ws) ae=ae++t/\t.Sublist ss
 | [],ae,h=>⟨h,λw=>by simp,[],by simp,List.Sublist.refl _⟩
 | s::ss,ae,h=>by
  by_cases c:undB ws s=false/\s∉ae
  ·have e:lrStep ws ae s=ae++[s]:=if_pos c
   have nd:(ae++[s]).Nodup:=by
    rw [nodup_append]
    refine ⟨h,by simp,λa ha b hb q=>?_⟩
    rw [mem_singleton.mp hb] at q
    rw [q] at ha
    exact c.2 ha
   obtain ⟨h1,h2,t,h3,h4⟩:=xI ws ss (ae++[s]) nd
   rw [foldl_cons,e]
   refine ⟨h1,λw=>?_,s::t,by rw [h3];simp,h4.cons₂ s⟩
   rw [h2 w]
   constructor
   ·rintro (q | q)
    ·rcases mem_append.mp q with q | q
     ·exact .inl q
     ·rw [mem_singleton.mp q]
      exact .inr ⟨mem_cons_self,c.1⟩
    ·exact .inr ⟨mem_cons_of_mem _ q.1,q.2⟩
   ·rintro (q | ⟨q,q'⟩)
    ·exact .inl (by simp [q])
    ·rcases mem_cons.mp q with rfl | q
     ·exact .inl (by simp)
     ·exact .inr ⟨q,q'⟩
  ·have e:lrStep ws ae s=ae:=if_neg c
   obtain ⟨h1,h2,t,h3,h4⟩:=xI ws ss ae h
   rw [foldl_cons,e]
   refine ⟨h1,λw=>?_,t,h3,h4.cons s⟩
   rw [h2 w]
   constructor
   ·rintro (q | q)
    ·exact .inl q
    ·exact .inr ⟨mem_cons_of_mem _ q.1,q.2⟩
   ·rintro (q | ⟨q,q'⟩)
    ·exact .inl q
    ·rcases mem_cons.mp q with rfl | q
     ·by_cases z:w∈ae
      ·exact .inl z
      ·exact absurd ⟨q',z⟩ c
     ·exact .inr ⟨q,q'⟩
theorem Hs {ws us ss:List (List (Int×Int))} (eu:sortD (dd (ws.map wishD))=us.map wishD) (mu:∀ u,u∈us↔u∈ws) (nu:us.Nodup) (es:sortD (ws.map wishD)=ss.map wishD) (ms:∀ u,u∈ss↔u∈ws) :
  ss.foldl (lrStep ws) []=us.filter λw=>!undB us w:=by
 obtain ⟨h1,h2,t,h3,h4⟩:=xI ws ss [] nodup_nil
 have up1:=uD (ws.map wishD)
 have da:=uD (dd (ws.map wishD))
 rw [es] at up1
 rw [eu] at da
 rw [nil_append] at h3
 refine xQ ?_ (da.sublist (filter_sublist.map _)) h1 (nu.filter _) λw=>?_
 ·rw [h3]
  exact up1.sublist (h4.map _)
 ·rw [h2 w,mem_filter,mu,ms,wA mu]
  simp
theorem Jn {ws:List (List (Int×Int))}{w:List (Int×Int)}:(List.filter (λone=>!decide (one=w)&&covB one w) ws).isEmpty=!undB ws w:=by
 unfold undB
 rw [Bool.eq_iff_iff]
 simp
theorem Fs {n:Nat}{ws ss:List (List (Int×Int))} (ak:∀ u∈ws,Wf n u) (h1:1<=n) (hn:n<=3) (hl:ws.length < 64) (e:sortD (ws.map wishD)=ss.map wishD) (m:∀ u,u∈ss↔u∈ws) (sl:ss.length=ws.length) :
  cvF wI [.lst (ws.map wishD)]=some (.lst ((ss.foldl (lrStep ws) []).map wishD)):=by
 refine uq rfl λKE k1 _=>?_
 rw [za]
 refine sH ?_;rintro K hK -
 simp
 refine hK _ ?_
 refine sH ?_;rintro K hK -
 simp [zG ak h1 hl,e]
 refine ua (J:=λi Y=>∃ x2 x3,Y=[some (.val (.lst (ws.map wishD))),some (.own (((ss.take i).foldl (lrStep ws) []).map wishD)),x2,x3]) ⟨_,_,rfl⟩ ?_ ?_
 ·rintro i d Y hd ⟨x2,x3,rfl⟩ KL aN - - -
  rw [getElem?_map,map_eq_some_iff] at hd
  obtain ⟨w,hw,rfl⟩:=hd
  have fQ:=(m w).mp (mem_of_getElem? hw)
  have oe:=ak w fQ
  have tk:ss.take (i+1)=ss.take i++[w]:=by rw [take_succ,hw];rfl
  have rD:((ss.take i).foldl (lrStep ws) []).length<=64:=by
   obtain ⟨_,_,t,h3,h4⟩:=xI ws (ss.take i) [] nodup_nil
   rw [h3,nil_append]
   have:=h4.length_le
   have:=(List.take_sublist i ss).length_le
   omega
  rw [tk,foldl_append] at aN
  simp only [foldl_cons,List.foldl_nil] at aN
  generalize (ss.take i).foldl (lrStep ws) []=ae at *
  simp
  refine sH ?_;rintro K hK -
  simp
  refine tU ws wishD (λone=>!decide (one=w)&&covB one w) wishD ?_
  simp [vg]
  refine ⟨by omega,λone ho=>⟨.inl (by have:=vo (w:=one);omega),?_⟩,hK _ ?_⟩
  ·have:=LU (a:=one) (b:=w) (by rw [(ak one ho).len,oe.len]) (by rw [(ak one ho).len];omega) oe.all
   by_cases q:one=w
   ·simp [q]
   ·simp [q,this]
  ·clear hK
   have dw:=vo (w:=w)
   have fa:(∀ a∈ae,deq (wishD a) (wishD w)=false)↔w∉ae:=by
    simp [vg]
    exact ⟨λh m=>h w m rfl,λh a m e=>h (e▸m)⟩
   simp [Jn,fa]
   by_cases c1:undB ws w=false
   ·by_cases c2:w∈ae
    ·rw [show lrStep ws ae w=ae from if_neg λz=>z.2 c2] at aN
     simp [c1,c2]
     exact ⟨by omega,aN _ ⟨_,_,rfl⟩⟩
    ·rw [show lrStep ws ae w=ae++[w] from if_pos ⟨c1,c2⟩] at aN
     simp [c1,c2,isMut,R.mut]
     exact ⟨by omega,by omega,aN _ ⟨_,_,by rw [map_append];rfl⟩⟩
   ·rw [show lrStep ws ae w=ae from if_neg λz=>c1 z.1] at aN
    simp [c1]
    exact aN _ ⟨_,_,rfl⟩
 ·rintro Y ⟨x2,x3,rfl⟩
  refine hK _ ?_
  rw [length_map,take_length]
  simp
  exact k1 _ ⟨_,rfl⟩
theorem zY {p q:Int×Int}{a b:List (Int×Int)}:covB (p::a) (q::b)=true↔(p.1<=q.1/\q.2<=p.2)/\covB a b=true:=by
 unfold covB
 rw [zip_cons_cons,all_cons]
 simp
theorem Bg:∀ a:List (Int×Int),covB a a=true
 | []=>rfl
 | p::a=>zY.mpr ⟨⟨Int.le_refl _,Int.le_refl _⟩,Bg a⟩
theorem Bq:∀ {a b c:List (Int×Int)},a.length=b.length->b.length=c.length->covB a b=true->covB b c=true->covB a c=true
 | [],[],[],_,_,_,_=>rfl
 | p::a,q::b,r::c,h1,h2,x,y=>by
  rw [zY] at x y ⊢
  exact ⟨⟨Int.le_trans x.1.1 y.1.1,Int.le_trans y.1.2 x.1.2⟩,Bq (by simpa using h1) (by simpa using h2) x.2 y.2⟩
noncomputable def wd (w:List (Int×Int)):Nat:=(w.map λp=>(p.2 - p.1).toNat).sum
theorem Bp:∀ {a b:List (Int×Int)},a.length=b.length->(∀ p∈b,p.1<=p.2)->covB a b=true->wd b<=wd a/\(wd b=wd a->a=b)
 | [],[],_,_,_=>⟨le_refl _,λ_=>rfl⟩
 | p::a,q::b,h,ok,x=>by
  rw [zY] at x
  obtain ⟨h1,h2⟩:=Bp (by simpa using h) (λp hp=>ok p (mem_cons_of_mem _ hp)) x.2
  have:=ok q mem_cons_self
  unfold wd at *
  simp only [map_cons,sum_cons]
  refine ⟨by omega,λe=>?_⟩
  rw [h2 (by omega)]
  have e1:p.1=q.1:=by omega
  have e2:p.2=q.2:=by omega
  rw [Prod.ext e1 e2]
theorem GT:∀ {n:Nat}{w:List (Int×Int)},Wf n w->wd w<=9*n
 | n,w,h=>by
  have:=h.len
  have aQ:∀ w:List (Int×Int),(∀ p∈w,PairOk p)->wd w<=9*w.length:=by
   intro w
   induction w with
   | nil=>exact λ_=>le_refl _
   | cons p w ih =>
    intro h
    have h1:=ih λq hq=>h q (mem_cons_of_mem _ hq)
    have h2:=h p mem_cons_self
    have:=h2.lo;have:=h2.hi
    unfold wd at *
    simp only [map_cons,sum_cons,length_cons]
    omega
  have:=aQ w h.all
  omega
theorem Wf.le2 {n:Nat}{w:List (Int×Int)} (h:Wf n w):∀ p∈w,p.1<=p.2:=λp hp=>(h.all p hp).le
theorem Aj {ws:List (List (Int×Int))}{w:List (Int×Int)}:undB ws w=true↔∃ u∈ws,u≠w/\covB u w=true:=by
 unfold undB
 rw [any_eq_true]
 simp
theorem CS {n:Nat}{ws:List (List (Int×Int))} (ak:∀ u∈ws,Wf n u):∀ (k:Nat) (w:List (Int×Int)),w∈ws->9*n - wd w<=k->∃ u∈ws,undB ws u=false/\covB u w=true
 | k,w,hw,hk=>by
  by_cases c:undB ws w=false
  ·exact ⟨w,hw,c,Bg w⟩
  ·have c:undB ws w=true:=by simpa using c
   obtain ⟨u,hu,ne,cv⟩:=Aj.mp c
   have lu:=(ak u hu).len
   have lw:=(ak w hw).len
   obtain ⟨d1,d2⟩:=Bp (by rw [lu,lw]) (ak w hw).le2 cv
   have lt:wd w < wd u:=by
    rcases lt_or_ge (wd w) (wd u) with z | z
    ·exact z
    ·exact absurd (d2 (Nat.le_antisymm d1 z)) ne
   have:=GT (ak u hu)
   match k with
   | 0=>omega
   | k+1 =>
    obtain ⟨m,hm,h1,h2⟩:=CS ak k u hu (by omega)
    have lm:=(ak m hm).len
    exact ⟨m,hm,h1,Bq (by rw [lm,lu]) (by rw [lu,lw]) h2 cv⟩
structure IsRoof (ws R:List (List (Int×Int))):Prop where
 up:(R.map wishD).Pairwise λa b=>leD a b=true
 nd:R.Nodup
 mem:∀ w,w∈R↔w∈ws/\undB ws w=false
theorem IsRoof.alone {ws R S:List (List (Int×Int))} (a:IsRoof ws R) (b:IsRoof ws S):R=S:=xQ a.up b.up a.nd b.nd λw=>(a.mem w).trans (b.mem w).symm
theorem IsRoof.congr {ws vs R:List (List (Int×Int))} (a:IsRoof ws R) (m:∀ u,u∈vs↔u∈ws):IsRoof vs R:=⟨a.up,a.nd,λw=>by rw [a.mem,m,wA m]⟩
theorem L9 (ws:List (List (Int×Int))):∃ R,IsRoof ws R/\R.length<=ws.length:=by
 obtain ⟨us,eu,mu,nu,ul⟩:=xh ws
 have da:=uD (dd (ws.map wishD))
 rw [eu] at da
 refine ⟨us.filter λw=>!undB us w,⟨da.sublist (filter_sublist.map _),nu.filter _,λw=>?_⟩,le_trans (length_filter_le _ _) ul⟩
 rw [mem_filter,mu,wA mu]
 simp
theorem Bd {n:Nat}{ws R:List (List (Int×Int))} (ak:∀ u∈ws,Wf n u) (h1:1<=n) (hn:n<=3) (hl:ws.length<=18) (a:IsRoof ws R):coF vL [.lst (ws.map wishD)]=some (R.map wishD):=by
 obtain ⟨us,eu,mu,nu,ul⟩:=xh ws
 have da:=uD (dd (ws.map wishD))
 rw [eu] at da
 have ij:(dd (ws.map wishD)).length<=18:=by
  have:=zI (ws.map wishD)
  simp at this
  omega
 rw [GQ ak h1 hn (by omega) ij eu mu ul]
 have:IsRoof ws (us.filter λw=>!undB us w):=⟨da.sublist (filter_sublist.map _),nu.filter _,λw=>by
  rw [mem_filter,mu,wA mu]
  simp⟩
 rw [this.alone a]
theorem IsRoof.over {n:Nat}{ws R:List (List (Int×Int))} (a:IsRoof ws R) (ak:∀ u∈ws,Wf n u){w:List (Int×Int)} (hw:w∈ws):∃ u∈R,covB u w=true:=by
 obtain ⟨u,h1,h2,h3⟩:=CS ak _ w hw (le_refl _)
 exact ⟨u,(a.mem u).mpr ⟨h1,h2⟩,h3⟩
theorem IsRoof.sub {ws R:List (List (Int×Int))} (a:IsRoof ws R){w:List (Int×Int)} (h:w∈R):w∈ws:=((a.mem w).mp h).1
theorem z7 {ws:List (List (Int×Int))}{l:List Int}:leftB ws l=true↔∀ w∈ws,hasB w l=false:=by
 unfold leftB
 rw [all_eq_true]
 simp
def AllIn (ws:List (List (Int×Int))) (p:List (Int×Int)):Prop:=∀ l∈lettersR p,∃ w∈ws,hasB w l=true
theorem AZ {ws:List (List (Int×Int))}{p:List (Int×Int)}:firstL ws p=none↔AllIn ws p:=by
 unfold firstL AllIn
 rw [find?_eq_none]
 constructor
 ·intro h l hl
  have:=h l hl
  rw [z7] at this
  simp at this
  obtain ⟨w,h1,h2⟩:=this
  exact ⟨w,h1,h2⟩
 ·rintro h l hl z
  obtain ⟨w,h1,h2⟩:=h l hl
  rw [z7] at z
  rw [z w h1] at h2
  cases h2
noncomputable def inB1 (ws:List (List (Int×Int))) (p:List (Int×Int)):Bool:=(firstL ws p).isNone
theorem xA {ws:List (List (Int×Int))}{p:List (Int×Int)}:inB1 ws p=true↔AllIn ws p:=by
 unfold inB1
 rw [Option.isNone_iff_eq_none,AZ]
theorem AllIn.mono {ws vs:List (List (Int×Int))}{p:List (Int×Int)} (h:AllIn ws p) (s:∀ w∈ws,w∈vs):AllIn vs p:=λl hl=>by
 obtain ⟨w,h1,h2⟩:=h l hl
 exact ⟨w,s w h1,h2⟩
theorem IsRoof.part {ws R K:List (List (Int×Int))} (a:IsRoof ws R) (s:K.Sublist R):IsRoof K K:=⟨a.up.sublist (s.map _),a.nd.sublist s,λw=>by
 constructor
 ·intro h
  refine ⟨h,?_⟩
  rw [Bool.eq_false_iff]
  intro z
  obtain ⟨u,h1,h2,h3⟩:=Aj.mp z
  have:=((a.mem w).mp (s.subset h)).2
  rw [Aj.mpr ⟨u,a.sub (s.subset h1),h2,h3⟩] at this
  cases this
 ·exact λh=>h.1⟩
theorem IsRoof.one (w:List (Int×Int)):IsRoof [w] [w]:=⟨List.pairwise_singleton _ _,by simp,λu=>by
 rw [mem_singleton]
 constructor
 ·rintro rfl
  refine ⟨rfl,?_⟩
  simp [undB]
 ·exact λh=>h.1⟩
@[simp] theorem Oq {α:Type}{a b c d:α}{ds:List α}:atI (a::b::c::d::ds) 3=some d:=by
 rw [show (3:Int)=((3:Nat):Int) from rfl,DL.uh];rfl
@[simp] theorem N9 {α:Type}{a b c d e:α}{ds:List α}:atI (a::b::c::d::e::ds) 4=some e:=by
 rw [show (4:Int)=((4:Nat):Int) from rfl,DL.uh];rfl
theorem Gc {aB:D->M Unit}{ts:M Bool}{el:M D}{it:M (List D)}{Y:Gm}{QL:List D->Gm->Prop} (J:Nat->List D->Gm->Prop)
  (h:wp it Y λds ab=>ds.length<=lim/\J 0 [] ab/\(∀ (i:Nat) d ae a ah,ds[i]?=some d->J i ae ah->wp (aB d) (a::ah) λ_ aR=>wp ts aR λb aP=>b=true/\wp el aP λx dU=>∃ a' gD,dU=a'::gD/\J (i+1) (ae++[x]) gD)/\∀ ae ah,J ds.length ae ah->QL ae ah):wp (compO 1 it aB ts el) Y QL:=by
 unfold compO
 rw [tM]
 refine h.mono λds ab ⟨hl,h0,hs,hq⟩=>?_
 rw [if_pos hl]
 have aQ:∀ (es:List D) (i:Nat) (ae:List D) (a:Option R) (ah:Gm),ds.drop i=es->i<=ds.length->J i ae ah->∃ r a' cE,compM aB ts el es (a::ah)=some (r,a'::cE)/\J ds.length (ae++r) cE:=by
  intro es
  induction es with
  | nil =>
   intro i ae a ah hd hi hj
   have:i=ds.length:=by
    have:=List.drop_eq_nil_iff.mp hd
    omega
   subst this
   exact ⟨[],a,ah,rfl,by simpa using hj⟩
  | cons d es ih =>
   intro i ae a ah hd hi hj
   have bE:i < ds.length:=by
    rcases lt_or_ge i ds.length with z | z
    ·exact z
    ·rw [List.drop_eq_nil_of_le z] at hd;cases hd
   have e1:ds[i]?=some d:=by
    have:=drop_eq_getElem_cons bE
    rw [hd] at this
    cases this
    exact getElem?_eq_getElem bE
   have e2:ds.drop (i+1)=es:=by
    have:=drop_eq_getElem_cons bE
    rw [hd] at this
    injection this with _ q
    exact q.symm
   obtain ⟨_,aR,g1,b,aP,g2,rfl,x,dU,g3,a',gD,rfl,br⟩:=hs i d ae a ah e1 hj
   obtain ⟨r,qT,cE,g4,og⟩:=ih (i+1) (ae++[x]) a' gD e2 bE br
   refine ⟨x::r,qT,cE,?_,by simpa using og⟩
   rw [compM]
   unfold bnd
   rw [g1]
   dsimp only
   rw [g2]
   dsimp only
   rw [if_pos rfl]
   rw [g3]
   dsimp only
   rw [g4]
   rfl
 obtain ⟨r,a',cE,e,hj⟩:=aQ ds 0 [] none ab rfl (zero_le _) h0
 refine ⟨r,cE,?_,hq r cE (by simpa using hj)⟩
 have e':compM aB ts el ds (replicate 1 none++ab)=some (r,a'::cE):=e
 unfold inC
 rw [e']
 rfl
theorem wK {i j:Nat}{g:List R->Option (R×List R)}{t:M (List D)}{h:M Fl}{Y:Gm}{c ds:List D}{QS:Fl->Gm->Prop} (hj:Y[j]?=some (some (.bor c))) (ht:t Y=some (ds,Y)) (hi:Nat.blt i Y.length=true)
  (k:wpB g c ds λr c'=>∃ d,r=.val d/\wp h ((Y.set j (some (.bor c'))).set i (some (.val d))) QS):wp (seqS (setV i (cbV j g t)) h) Y QS:=by
 obtain ⟨r,c',e1,d,rfl,k⟩:=k
 have ba:i < Y.length:=by rw [← Nat.ble_eq_true_of_le (le_refl 0)] at hi;exact Nat.le_of_ble_eq_true hi
 refine sH λK hK _=>⟨.nx,_,?_,hK _ k⟩
 have e2:callB j g t Y=some (.val d,Y.set j (some (.bor c'))):=by
  unfold callB mutS
  have:isMut Y j=true:=by unfold isMut;rw [hj];rfl
  rw [this]
  simp only [bnd,ht,hj,e1,if_true]
 simp [setV,cbV,bnd,lft,asV,e2,putS,ret,ba]
theorem vz {i:Nat}{k x:Int}{A h:M Fl}{Y:Gm}{QS:Fl->Gm->Prop} (fq:Y[i]?=some (some (.val (.int x)))) (ne:¬ x=k) (hh:wp h Y QS):wp (seqS (ifS (tst (op2 (eqF false) (nm i) (ret (.int k)))) A (ret .nx)) h) Y QS:=by
 refine sH λK hK _=>?_
 simp [fq,ne,dep]
 exact hK _ hh
theorem vR {i:Nat}{k x:Int}{A h:M Fl}{Y:Gm}{QS:Fl->Gm->Prop} (fq:Y[i]?=some (some (.val (.int x)))) (e:x=k) (hh:∀ K:Fl->Gm->Prop,(∀ r ab,QS (.rt r) ab->K (.rt r) ab)->wp A Y K):wp (seqS (ifS (tst (op2 (eqF false) (nm i) (ret (.int k)))) A (ret .nx)) h) Y QS:=by
 refine sH λK hK hR=>?_
 simp [fq,e,dep]
 exact hh K hR
theorem Cy {i:Nat}{k x:Int}{A h:M Fl}{Y:Gm}{QS:Fl->Gm->Prop} (fq:Y[i]?=some (some (.val (.int x)))) (ne:¬ x < k) (hh:wp h Y QS):wp (seqS (ifS (tst (op2 ltI (nm i) (ret (.int k)))) A (ret .nx)) h) Y QS:=by
 refine sH λK hK _=>?_
 simp [fq,ne]
 exact hK _ hh
theorem BJ {i:Nat}{k x:Int}{A h:M Fl}{Y:Gm}{QS:Fl->Gm->Prop} (fq:Y[i]?=some (some (.val (.int x)))) (e:x < k) (hh:∀ K:Fl->Gm->Prop,(∀ r ab,QS (.rt r) ab->K (.rt r) ab)->wp A Y K):wp (seqS (ifS (tst (op2 ltI (nm i) (ret (.int k)))) A (ret .nx)) h) Y QS:=by
 refine sH λK hK hR=>?_
 simp [fq,e]
 exact hh K hR
theorem GG {c:M Bool}{A B h:M Fl}{Y:Gm}{QS:Fl->Gm->Prop} (e:c Y=some (true,Y)) (hh:∀ K:Fl->Gm->Prop,(∀ r ab,QS (.rt r) ab->K (.rt r) ab)->wp A Y K):wp (seqS (ifS c A B) h) Y QS:=by
 refine sH λK hK hR=>?_
 obtain ⟨a,af,e1,k⟩:=hh K hR
 exact ⟨a,af,by simp [ifS,bnd,e,e1],k⟩
theorem Kf {c:M Bool}{A h:M Fl}{Y:Gm}{QS:Fl->Gm->Prop} (e:c Y=some (false,Y)) (hh:wp h Y QS):wp (seqS (ifS c A (ret .nx)) h) Y QS :=
 sH λK hK hR=>⟨.nx,Y,by simp [ifS,bnd,e,ret],hK _ hh⟩
theorem Ip {i:Nat}{g:M D}{d:D}{h:M Fl}{Y:Gm}{QS:Fl->Gm->Prop} (e:g Y=some (d,Y)) (hi:Nat.blt i Y.length=true) (hh:wp h (Y.set i (some (.val d))) QS):wp (seqS (setV i g) h) Y QS :=
 sH λK hK hR=>⟨.nx,_,by have ba:i < Y.length:=Nat.le_of_ble_eq_true hi;simp [setV,bnd,e,putS,ret,ba],hK _ hh⟩
theorem HI {g:M D}{d:D}{Y:Gm}{K:Fl->Gm->Prop} (e:g Y=some (d,Y)) (hh:K (.rt (.val d)) Y):wp (retS g) Y K:=⟨_,_,by simp [retS,bnd,e,ret],hh⟩
theorem Je {L ix:M D}{Y:Gm}{vs:List D}{i:Int}{K:Fl->Gm->Prop} (e1:L Y=some (.lst vs,Y)) (e2:ix Y=some (.int i,Y)) (h:∃ d,atI vs i=some d/\K (.rt (.val d)) Y):wp (retS (op2 ixF L ix)) Y K:=by
 obtain ⟨d,e3,k⟩:=h
 refine HI ?_ k
 simp [op2,bnd,e1,e2,lft,ixF,seqI,asI,e3]
abbrev Wish:=List (Int×Int)
theorem vH {n:Nat}{ws:List Wish}{l:List Int} (ak:∀ w∈ws,Wf n w) (hn:n<=3) (hl:l.length=n) (h1:ws.length<=1000):coF uv [.lst (ws.map wishD),letD l]=some ((ws.filter λw=>hasB w l).map wishD):=by
 have:∃ d,coF uv [.lst (ws.map wishD),letD l]=some d/\d=(ws.filter λw=>hasB w l).map wishD:=by
  refine DU ?_
  unfold uv
  refine xT rfl ?_
  rw [AF]
  simp [flR]
  refine tU ws wishD (λw=>hasB w l) wishD ?_
  simp
  refine ⟨by omega,λw hw=>?_,?_⟩
  ·have:=GV (w:=w) (l:=l) (by rw [(ak w hw).len,hl]) (by rw [(ak w hw).len];omega)
   rw [sR this]
   simp
  ·simp [fin]
 obtain ⟨d,e,rfl⟩:=this
 exact e
theorem Aw {α:Type}:∀ (kz:List Int) (xs:List α) (b:α) (m:Int),bestK b m kz xs=b\/bestK b m kz xs∈xs
 | [],xs,b,m=>by unfold bestK;exact .inl rfl
 | k::kz,[],b,m=>by unfold bestK;exact .inl rfl
 | k::kz,x::xs,b,m=>by
  rw [bestK]
  split
  ·rcases Aw kz xs x k with e | e
   ·rw [e];exact .inr mem_cons_self
   ·exact .inr (mem_cons_of_mem _ e)
  ·rcases Aw kz xs b m with e | e
   ·exact .inl e
   ·exact .inr (mem_cons_of_mem _ e)
theorem FD {α:Type}{d:α}{kz:List Int}{xs:List α} (h:kz.length=xs.length) (ne:xs≠[]):minL d kz xs∈xs:=by
 cases xs with
 | nil=>exact absurd rfl ne
 | cons x xs =>
  cases kz with
  | nil=>simp at h
  | cons k kz =>
   show bestK x k kz xs∈x::xs
   rcases Aw kz xs x k with e | e
   ·rw [e];exact mem_cons_self
   ·exact mem_cons_of_mem _ e
theorem Ea {ws:List Wish}{p:Wish}{l:List Int} (h:firstL ws p=some l):l.length=p.length/\hasB p l=true/\leftB ws l=true:=by
 have h1:=List.find?_some h
 have h2:=uQ.mp (List.mem_of_find?_eq_some h)
 exact ⟨h2.1,h2.2,h1⟩
noncomputable def covD (C:List Wish) (w:Wish):D:=(cvF vy [.lst (C.map wishD),wishD w]).getD .non
theorem Ca {n:Nat}{ws:List Wish} (ak:∀ w∈ws,Wf n w) (hn:n<=3) (h1:ws.length<=1000):∀ ls:List (List Int),(∀ l∈ls,l.length=n)->keysL (fn1 lenF (consA (frz (fn1 (coF uv) (consA (nm 1) (consA (nm 0) nilA)))) nilA)) (.lst (ws.map wishD)) (ls.map letD)=some (ls.map λl=>((ws.filter λw=>hasB w l).length:Int))
 | [],_=>rfl
 | l::ls,h=>by
  have e:(fn1 lenF (consA (frz (fn1 (coF uv) (consA (nm 1) (consA (nm 0) nilA)))) nilA)) [some (.val (letD l)),some (.val (.lst (ws.map wishD)))]=some (.int ((ws.filter λw=>hasB w l).length:Int),[some (.val (letD l)),some (.val (.lst (ws.map wishD)))]):=by
   have:wp (fn1 lenF (consA (frz (fn1 (coF uv) (consA (nm 1) (consA (nm 0) nilA)))) nilA)) [some (.val (letD l)),some (.val (.lst (ws.map wishD)))] λd Y=>d=.int ((ws.filter λw=>hasB w l).length:Int)/\Y=[some (.val (letD l)),some (.val (.lst (ws.map wishD)))]:=by
    simp
    rw [sR (vH ak hn (h l mem_cons_self) h1)]
    simp
   obtain ⟨d,Y,e,rfl,rfl⟩:=this
   exact e
  rw [map_cons,keysL,e]
  dsimp only
  rw [Ca ak hn h1 ls λx hx=>h x (mem_cons_of_mem _ hx)]
  rfl
def LeftIs (n:Nat) (R C:List Wish) (o:Option (List Int)):Prop:=(o=none->∀ w∈R,AllIn C w)/\∀ l,o=some l->l.length=n/\leftB C l=true/\∃ w∈R,hasB w l=true
noncomputable def optD:Option (List Int)->D
 | none=>.non
 | some l=>letD l
theorem D' (C:List Wish):∀ R:List Wish,(R.filter λw=>(firstL C w).isSome).map (λw=>letD ((firstL C w).getD []))=(R.filterMap (firstL C)).map letD
 | []=>rfl
 | w::R=>by
  have ih:=D' C R
  rw [filter_cons,filterMap_cons]
  cases e:firstL C w with
  | none=>simpa [e] using ih
  | some l=>simpa [e] using ih
theorem Iz {el:M D}{dc:D}{ds:List D}{kz:List Int} (h:keysL el dc ds=some kz):minLF el (.lst ds) dc=some (minL .non kz ds):=by
 unfold minLF
 dsimp only
 rw [h]
theorem CO {n:Nat}{R C:List Wish} (hR:∀ w∈R,Wf n w) (hC:∀ w∈C,Wf n w) (hn:n<=3) (lR:R.length<=100) (lC:C.length<=100):∃ o,cvF vS [.lst (R.map wishD),.lst (C.map wishD)]=some (optD o)/\LeftIs n R C o:=by
 have jf:∀ w∈R,cvF vy [.lst (C.map wishD),wishD w]=some (covD C w)/\RightD C w 27 (covD C w):=λw hw=>by
  obtain ⟨d,e,r⟩:=G' hC lC hn (hR w hw)
  have:covD C w=d:=by unfold covD;rw [e];rfl
  rw [this]
  exact ⟨e,r⟩
 have aL:∀ w∈R,(∃ l x,firstL C w=some l/\covD C w=.tup [.str "out", letD l]/\x=l)\/(firstL C w=none/\∃ x,covD C w=.tup [.str "in", x]):=λw hw=>by
  rcases (jf w hw).2 with ⟨l,e1,e2⟩ | ⟨t,e1,_,_,e2⟩
  ·exact .inl ⟨l,l,e1,e2,rfl⟩
  ·exact .inr ⟨e1,_,e2⟩
 have oh:∀ l∈R.filterMap (firstL C),l.length=n:=λl hl=>by
  obtain ⟨w,hw,e⟩:=mem_filterMap.mp hl
  rw [(Ea e).1,(hR w hw).len]
 have oj:=Ca hR hn (by omega) _ oh
 generalize hls:R.filterMap (firstL C)=ls at *
 generalize hkz:(ls.map λl=>((R.filter λw=>hasB w l).length:Int))=kz at *
 have kl:kz.length=(ls.map letD).length:=by rw [← hkz];simp
 obtain ⟨o,eo,o1,o2⟩:∃ o,minL .non kz (ls.map letD)=optD o/\(o=none->ls=[])/\∀ l,o=some l->l∈ls:=by
  by_cases ne:ls=[]
  ·subst ne
   refine ⟨none,?_,λ_=>rfl,λl h=>nomatch h⟩
   cases kz<;>rfl
  ·have:=FD (d:=D.non) kl (by simpa using ne)
   obtain ⟨l,hl,e⟩:=mem_map.mp this
   exact ⟨some l,e.symm,(λh=>nomatch h),λl' h=>by cases h;exact hl⟩
 refine ⟨o,uE ?_,λh w hw=>?_,λl h=>?_⟩
 ·unfold vS
  refine xT rfl ?_
  rw [AR]
  refine sH λK hK _=>?_
  simp
  refine tU R wishD (λ_=>true) (covD C) ?_
  simp
  refine ⟨by omega,λw hw=>?_,hK _ ?_⟩
  ·rw [sR (jf w hw).1]
   exact ⟨rfl,_,rfl⟩
  refine sH λK hK _=>?_
  simp
  refine tU R (covD C) (λw=>(firstL C w).isSome) (λw=>letD ((firstL C w).getD [])) ?_
  simp
  refine ⟨by omega,λw hw=>?_,hK _ ?_⟩
  ·rcases aL w hw with ⟨l,x,e1,e2,-⟩ | ⟨e1,x,e2⟩
   ·rw [e1,e2]
    simp [dep,deq]
   ·rw [e1,e2]
    simp [dep,deq]
    exact ⟨by decide,λh=>absurd h (by decide)⟩
  have ef:=D' C R
  rw [hls] at ef
  rw [ef]
  simp [minLam,flR]
  refine ⟨.lst (R.map wishD),_,rfl,?_⟩
  dsimp only
  rw [sR (Iz oj)]
  exact ⟨⟨_,rfl⟩,eo⟩
 ·have:=o1 h
  rw [← hls] at this
  refine AZ.mp ?_
  have:=List.filterMap_eq_nil_iff.mp this w hw
  exact this
 ·have hl:=o2 l h
  rw [← hls] at hl
  obtain ⟨w,hw,e⟩:=mem_filterMap.mp hl
  obtain ⟨f1,f2,f3⟩:=Ea e
  exact ⟨by rw [f1,(hR w hw).len],f3,w,hw,f2⟩
inductive RightT (n:Nat) (R:List Wish):List Wish->Nat->D->Prop
 | left {C:List Wish}{l:List Int}:l.length=n->leftB C l=true->(∃ w∈R,hasB w l=true)->RightT n R C 0 (.tup [.str "left", letD l])
 | meet {C:List Wish}{l:List Int}{m:Nat}{ts:List D}:l.length=n->leftB C l=true->(∃ w∈R,hasB w l=true)->ts.length=(R.filter λw=>hasB w l).length →
   (∀ (i:Nat) w t,(R.filter λw=>hasB w l)[i]?=some w->ts[i]?=some t->RightT n R (C++[w]) m t)->RightT n R C (m+1) (.tup [.str "meet", letD l,.lst ts])
abbrev Rises (K:List Wish):Prop:=(K.map wishD).Pairwise λa b=>leD a b=true
def AllD (R C:List Wish) (m:Nat) (d:D):Prop:=∃ K E:List Wish,E.length<=m/\(∀ e∈E,e∈R)/\(∀ u,u∈K↔u∈C++E)/\K.length=(C++E).length/\K.Nodup/\Rises K/\(∀ w∈R,AllIn K w)/\d=.tup [.str "all", .lst (K.map wishD)]
theorem FG {n:Nat}{ws:List Wish} (ak:∀ w∈ws,Wf n w) (h1:1<=n) (hl:ws.length < 64) (nd:ws.Nodup):∃ K:List Wish,sortF [.lst (ws.map wishD)]=some (K.map wishD)/\(∀ u,u∈K↔u∈ws)/\K.length=ws.length/\K.Nodup/\Rises K:=by
 obtain ⟨us,e,m,len⟩:=zZ ws
 have up:=uD (ws.map wishD)
 have pm:=uX (ws.map wishD)
 rw [e] at up pm
 refine ⟨us,by rw [zG ak h1 hl,e],m,len,?_,up⟩
 have nm:(ws.map wishD).Nodup:=by
  rw [List.Nodup,List.pairwise_map]
  exact nd.imp λh z=>h (AL z)
 exact B8 (pm.nodup_iff.mpr nm)
theorem vO {C:List Wish}{l:List Int}{w:Wish} (h:leftB C l=true) (hw:hasB w l=true):w∉C:=λz=>by
 rw [z7.mp h w z] at hw
 cases hw
theorem RightT.head {n:Nat}{R C:List Wish}{m:Nat}{d:D} (h:RightT n R C m d):∃ s xs,d=.tup (.str s::xs)/\s ≠ "all":=by
 cases h with
 | left=>exact ⟨_,_,rfl,by decide⟩
 | meet=>exact ⟨_,_,rfl,by decide⟩
theorem CU {n:Nat}{R:List Wish} (hR:∀ w∈R,Wf n w) (h1:1<=n) (hn:n<=3) (lR:R.length<=20):∀ (f m:Nat) (C:List Wish),m < f->(∀ c∈C,c∈R)->C.Nodup->C.length+m<=50 →
  ∃ d,cvF (uA f) [.lst (R.map wishD),.lst (C.map wishD),.int (m:Int)]=some d/\(AllD R C m d\/RightT n R C m d)
 | 0,m,C,hm,_,_,_=>absurd hm (not_lt_zero m)
 | f+1,m,C,hm,hC,nd,lC=>by
  have wC:∀ c∈C,Wf n c:=λc hc=>hR c (hC c hc)
  obtain ⟨o,eo,o1,o2⟩:=CO hR wC hn (by omega) (by omega)
  have aQ:wpF (uA (f+1)) [.val (.lst (R.map wishD)),.val (.lst (C.map wishD)),.val (.int (m:Int))] λr _=>∃ d,r=.val d/\(AllD R C m d\/RightT n R C m d):=by
   rw [uA]
   refine tZ rfl λKE hE _=>?_
   rw [wW]
   refine sH λK hK _=>?_
   simp
   rw [sR eo]
   refine ⟨by simp,hK _ ?_⟩
   refine sH λK hK ao=>?_
   cases o with
   | none =>
    obtain ⟨K',e1,e2,e3,e4,e5⟩:=FG wC h1 (by omega) nd
    simp [optD,isN]
    rw [sR e1]
    refine ao _ _ (hE _ _ ⟨_,rfl,_,rfl,.inl ⟨K',[],zero_le _,by simp,by simpa using e2,by simpa using e3,e4,e5,λw hw=>(o1 rfl w hw).mono λu hu=>(e2 u).mpr hu,rfl⟩⟩)
   | some l =>
    obtain ⟨l1,l2,l3⟩:=o2 l rfl
    have qU:isN (letD l)=false:=rfl
    simp [optD,qU]
    refine hK _ ?_
    refine sH λK hK ao=>?_
    cases m with
    | zero =>
     simp [dep]
     exact ao _ _ (hE _ _ ⟨_,rfl,_,rfl,.inr (RightT.left l1 l2 l3)⟩)
    | succ m =>
     simp [dep]
     rw [if_neg (by omega)]
     refine hK _ ?_
     clear hK ao
     refine sH λK hK _=>?_
     simp
     refine hK _ ?_
     have om:=vH hR hn l1 (by omega)
     obtain ⟨hv,ik⟩:∃ hv,(R.filter λw=>hasB w l)=hv:=⟨_,rfl⟩
     rw [ik] at om
     have mem:∀ w∈hv,w∈R/\hasB w l=true:=λw hw=>by rw [← ik] at hw;simpa using hw
     have sv:hv.length<=20:=by rw [← ik];exact le_trans (length_filter_le _ _) lR
     have bY:∀ w∈hv,∃ d,cvF (uA f) [.lst (R.map wishD),.lst (C.map wishD++[wishD w]),.int (m:Int)]=some d/\(AllD R (C++[w]) m d\/RightT n R (C++[w]) m d):=λw hw=>by
      obtain ⟨w1,w2⟩:=mem w hw
      have:=CU hR h1 hn lR f m (C++[w]) (by omega) (λc hc=>by
       rcases mem_append.mp hc with z | z
       ·exact hC c z
       ·rw [mem_singleton.mp z];exact w1) (nodup_append.mpr ⟨nd,by simp,λa ha b hb e=>by
        rw [mem_singleton.mp hb] at e
        subst e
        exact vO l2 w2 ha⟩) (by simp;omega)
      rwa [map_append] at this
     clear eo o1 o2
     refine sH λK hK ao=>?_
     simp
     rw [sR om]
     refine ua (J:=λi Y=>∃ (ts:List D) (x y:Option DL.R),ts.length=i/\(∀ (j:Nat) w t,hv[j]?=some w->ts[j]?=some t->RightT n R (C++[w]) m t)/\Y=[some (.val (.lst (R.map wishD))),some (.val (.lst (C.map wishD))),some (.val (.int ((m:Int)+1))),some (.val (letD l)),some (.own ts),x,y]) ⟨[],none,none,rfl,by simp,rfl⟩ ?_ ?_
     ·rintro i d Y hd ⟨ts,x,y,ti,tr,rfl⟩ K aN _ _ il
      rw [getElem?_map,map_eq_some_iff] at hd
      obtain ⟨w,e1,rfl⟩:=hd
      have hw:=mem_of_getElem? e1
      obtain ⟨d,ed,dd⟩:=bY w hw
      refine ⟨(),_,rfl,?_⟩
      show wp _ [some (.val (.lst (R.map wishD))),some (.val (.lst (C.map wishD))),some (.val (.int ((m:Int)+1))),some (.val (letD l)),some (.own ts),some (.val (wishD w)),y] _
      refine sH λK hK _=>?_
      simp
      rw [sR ed]
      refine ⟨by omega,by simp,hK _ ?_⟩
      rcases dd with al | rt
      ·obtain ⟨K',E,a1,a2,a3,a4,a5,a6,a7,rfl⟩:=al
       refine sH λK hK fP=>?_
       simp [dep,deq]
       refine fP _ _ (il _ _ (ao _ _ (hE _ _ ⟨_,rfl,_,rfl,.inl ⟨K',w::E,by simpa using a1,λe he=>?_,?_,?_,a5,a6,a7,rfl⟩⟩)))
       ·rcases mem_cons.mp he with z | z
        ·rw [z];exact (mem w hw).1
        ·exact a2 e z
       ·simpa using a3
       ·simpa using a4
      ·obtain ⟨sx,xs,e2,ne⟩:=rt.head
       refine sH λK hK fP=>?_
       subst e2
       have dq:deq (.str sx) (.str "all")=false:=by simpa [deq] using ne
       simp [dep,dq]
       refine hK _ ?_
       have tl:ts.length < 1000000:=by
        have:=(List.getElem?_eq_some_iff.mp e1).1
        omega
       simp [isMut,DL.R.mut]
       refine ⟨tl,aN _ ⟨ts++[.tup (.str sx::xs)],_,_,by simp [ti],λj u t hu ht=>?_,rfl⟩⟩
       rcases lt_or_ge j ts.length with lt | ge
       ·rw [getElem?_append_left lt] at ht
        exact tr j u t hu ht
       ·rw [getElem?_append_right ge] at ht
        have j0:j - ts.length=0:=by
         have:=(List.getElem?_eq_some_iff.mp ht).1
         simp at this
         omega
        rw [j0] at ht
        have ji:j=i:=by omega
        rw [ji,e1] at hu
        cases hu
        cases ht
        exact rt
     ·rintro Y ⟨ts,x,y,ti,tr,rfl⟩
      refine hK _ ?_
      simp
      rw [length_map] at ti
      exact hE _ _ ⟨_,rfl,_,rfl,.inr (RightT.meet l1 l2 l3 (by rw [ik];exact ti) (by rw [ik];exact tr))⟩
  obtain ⟨r,rs,e,d,rfl,h⟩:=aQ
  exact ⟨d,by unfold cvF;simp only [map];rw [e],h⟩
theorem Jh {n:Nat}{R:List Wish} (hR:∀ w∈R,Wf n w){m:Nat}{C:List Wish}{d:D} (h:RightT n R C m d):∀ E:List Wish,(∀ e∈E,e∈R)->E.length<=m->(∀ w∈R,AllIn (C++E) w)->False:=by
 induction h with
 | left l1 l2 l3 =>
  intro E hE le al
  obtain ⟨w,hw,hl⟩:=l3
  rw [length_eq_zero_iff.mp (le_zero.mp le),append_nil] at al
  obtain ⟨c,hc,h2⟩:=al w hw _ (uQ.mpr ⟨by rw [l1,(hR w hw).len],hl⟩)
  exact vO l2 h2 hc
 | @meet C l m ts l1 l2 l3 tl tr ih =>
  intro E hE le al
  obtain ⟨w,hw,hl⟩:=l3
  obtain ⟨e,he,h2⟩:=al w hw l (uQ.mpr ⟨by rw [l1,(hR w hw).len],hl⟩)
  have oo:e∈E:=by
   rcases mem_append.mp he with z | z
   ·exact absurd z (vO l2 h2)
   ·exact z
  obtain ⟨E1,E2,rfl⟩:=List.append_of_mem oo
  have hf:e∈R.filter λw=>hasB w l:=mem_filter.mpr ⟨hE e oo,h2⟩
  obtain ⟨i,hi,ei⟩:=getElem_of_mem hf
  refine ih i e ts[i] (by rw [getElem?_eq_getElem hi,ei]) (getElem?_eq_getElem (by omega)) (E1++E2) (λu hu=>hE u ?_) ?_ λw hw=>(al w hw).mono λu hu=>?_
  ·rcases mem_append.mp hu with z | z
   ·exact mem_append_left _ z
   ·exact mem_append_right _ (mem_cons_of_mem _ z)
  ·simp at le ⊢
   omega
  ·simp only [mem_append,mem_cons,mem_singleton,not_mem_nil,or_false] at hu ⊢
   rcases hu with z | z | z | z
   ·exact .inl (.inl z)
   ·exact .inr (.inl z)
   ·exact .inl (.inr z)
   ·exact .inr (.inr z)
def nodes:Nat->Nat
 | 0=>1
 | k+1=>1+(k+1)*nodes k
theorem Gw {R C:List Wish}{l:List Int} (nR:R.Nodup) (nC:C.Nodup) (sub:∀ c∈C,c∈R) (h:leftB C l=true):(R.filter λw=>hasB w l).length+C.length<=R.length:=by
 have:=xq ((R.filter λw=>hasB w l)++C) R (nodup_append.mpr ⟨nR.sublist filter_sublist,nC,λa ha b hb e=>by
  subst e
  exact vO h (mem_filter.mp ha).2 hb⟩) λx hx=>by
  rcases mem_append.mp hx with z | z
  ·exact (mem_filter.mp z).1
  ·exact sub x z
 rwa [length_append] at this
def Fw (R:List Wish) (k:Nat):Prop:=∃ E:List Wish,E.length<=k/\(∀ e∈E,e∈R)/\∀ w∈R,AllIn E w
theorem Fw.mono {R:List Wish}{j k:Nat} (h:Fw R j) (hk:j<=k):Fw R k:=by
 obtain ⟨E,a,b,c⟩:=h
 exact ⟨E,by omega,b,c⟩
theorem Fw.all (R:List Wish):Fw R R.length:=⟨R,le_refl _,λe he=>he,λw hw l hl=>⟨w,hw,(uQ.mp hl).2⟩⟩
theorem BC {n:Nat}{R:List Wish} (hR:∀ w∈R,Wf n w){m:Nat}{d:D} (h:RightT n R [] m d):¬ Fw R m:=λ⟨E,a,b,c⟩=>Jh hR h E b a (by simpa using c)
def FewD (n:Nat) (R:List Wish) (d:D):Prop:=∃ (k:Nat) (K:List Wish) (t:D),K.length=k+1/\(∀ u∈K,u∈R)/\K.Nodup/\Rises K/\(∀ w∈R,AllIn K w)/\RightT n R [] k t/\d=.tup [.int ((k:Int)+1),.lst (K.map wishD),t]
theorem J1 {R:List Wish}{m:Nat}{d:D} (h:AllD R [] m d):Fw R m:=by
 obtain ⟨K,E,a1,a2,a3,a4,a5,a6,a7,_⟩:=h
 exact ⟨E,a1,a2,λw hw=>(a7 w hw).mono λu hu=>by simpa using (a3 u).mp hu⟩
theorem Gd {n:Nat}{ws R:List Wish} (ak:∀ w∈ws,Wf n w) (h1:1<=n) (hn:n<=3) (a:IsRoof ws R) (lw:ws.length<=7) (lR:R.length<=ws.length) (ne:R≠[]):∃ d,cvF wJ [.lst (ws.map wishD)]=some d/\FewD n R d:=by
 have hR:∀ w∈R,Wf n w:=λw hw=>ak w (a.sub hw)
 have eJ:=Bd ak h1 hn (by omega) a
 have look:∀ m:Nat,m<=8->∃ d,cvF (uA 10) [.lst (R.map wishD),.lst [],.int (m:Int)]=some d/\(AllD R [] m d\/RightT n R [] m d):=λm hm=>CU hR h1 hn (by omega) 10 m [] (by omega) (by simp) (by simp) (by simp;omega)
 have zero:∀ d,¬ AllD R [] 0 d:=λd h=>by
  obtain ⟨E,e1,e2,e3⟩:=J1 h
  rw [length_eq_zero_iff.mp (le_zero.mp e1)] at e3
  obtain ⟨w,hw⟩:=List.exists_mem_of_ne_nil R ne
  obtain ⟨u,hu,_⟩:=e3 w hw _ (by
   obtain ⟨t,e⟩:=AA (hR w hw).ok
   rw [e]
   exact mem_cons_self)
  cases hu
 have aQ:wpF wJ [.val (.lst (ws.map wishD))] λr _=>∃ d,r=.val d/\FewD n R d:=by
  refine tZ rfl λKE hE _=>?_
  rw [AV]
  refine sH λK hK _=>?_
  simp
  rw [sR eJ]
  refine ⟨by simp,hK _ ?_⟩
  refine sH λK hK _=>⟨_,_,rfl,hK _ ?_⟩
  refine sH λK hK _=>⟨_,_,rfl,hK _ ?_⟩
  obtain ⟨d0,e0,r0⟩:=look 0 (by omega)
  have r0:RightT n R [] 0 d0:=r0.resolve_left (zero d0)
  refine sH λK hK _=>?_
  simp
  have e0:cvF (uA 10) [.lst (R.map wishD),.lst [],.int 0]=some d0:=e0
  rw [sR e0]
  refine ⟨by simp,hK _ ?_⟩
  refine sH λK hK _=>?_
  refine Mu (J:=λmm Y=>∃ (k:Nat) (x d:D),mm+k=8/\(AllD R [] k d\/RightT n R [] k d)/\(k=0\/∃ k',k=k'+1/\RightT n R [] k' x)/\Y=[some (.val (.lst (ws.map wishD))),some (.val (.lst (R.map wishD))),some (.val (.int (k:Int))),some (.val x),some (.val d)]) ?_ 100 8 _ (by omega) ⟨0,.non,d0,rfl,.inr r0,.inl rfl,rfl⟩
  rintro mm Y ⟨k,x,d,hk,hd,hx,rfl⟩
  rcases hd with al | rt
  ·obtain ⟨K',E,a1,a2,a3,a4,a5,a6,a7,rfl⟩:=id al
   simp [dep,deq]
   refine hK _ ?_
   simp
   obtain ⟨k',rfl,rt⟩:∃ k',k=k'+1/\RightT n R [] k' x:=by
    rcases hx with z | z
    ·rw [z] at al
     exact absurd al (zero _)
    ·exact z
   have sub:∀ u∈K',u∈R:=λu hu=>a2 u (by simpa using (a3 u).mp hu)
   have len:K'.length=k'+1:=by
    have no:=BC hR rt
    have:¬ K'.length<=k':=λz=>no ⟨K',z,sub,a7⟩
    simp at a4
    omega
   refine hE _ _ ⟨_,rfl,_,rfl,k',K',x,len,sub,a5,a6,a7,rt,?_⟩
   simp
  ·obtain ⟨sx,xs,e2,oq⟩:=rt.head
   have dq:deq (.str sx) (.str "all")=false:=by simpa [deq] using oq
   have sw:k < R.length:=by
    rcases lt_or_ge k R.length with z | z
    ·exact z
    ·exact absurd ((Fw.all R).mono z) (BC hR rt)
   obtain ⟨d',e',r'⟩:=look (k+1) (by omega)
   subst e2
   have cond:wp (tst (op2 (eqF true) (op2 ixF (nm 4) (ret (.int 0))) (ret (.str "all")))) [some (.val (.lst (ws.map wishD))),some (.val (.lst (R.map wishD))),some (.val (.int (k:Int))),some (.val x),some (.val (.tup (.str sx::xs)))] λb ab=>b=true/\ab=[some (.val (.lst (ws.map wishD))),some (.val (.lst (R.map wishD))),some (.val (.int (k:Int))),some (.val x),some (.val (.tup (.str sx::xs)))]:=by simp [dep,dq]
   refine cond.mono ?_
   rintro b ab ⟨rfl,rfl⟩
   rw [if_pos rfl]
   refine ⟨mm - 1,by omega,λK aN _ _ _=>?_⟩
   refine sH λK hK _=>⟨_,_,rfl,hK _ ?_⟩
   refine sH λK hK _=>⟨_,_,rfl,hK _ ?_⟩
   simp
   have ec:((k+1:Nat):Int)=(k:Int)+1:=by omega
   rw [ec] at e'
   rw [sR e']
   exact ⟨by simp,aN _ ⟨k+1,_,d',by omega,r',.inr ⟨k,rfl,rt⟩,by rw [ec];rfl⟩⟩
 obtain ⟨r,rs,e,d,rfl,h⟩:=aQ
 exact ⟨d,by unfold cvF;simp only [map];rw [e],h⟩
theorem Ld {R K:List Wish} (up:Rises R) (nR:R.Nodup) (uK:Rises K) (nK:K.Nodup) (sub:∀ u∈K,u∈R):(R.filter λw=>decide (w∈K))=K :=
 xQ (up.sublist (filter_sublist.map _)) uK (nR.sublist filter_sublist) nK λw=>by
  rw [mem_filter]
  exact ⟨λh=>by simpa using h.2,λh=>⟨sub w h,by simpa using h⟩⟩
theorem DM (ws:List Wish) (w:Wish):(ws.map wishD).any (λd=>deq d (wishD w))=decide (w∈ws):=by
 induction ws with
 | nil=>rfl
 | cons u ws ih =>
  rw [map_cons,any_cons,ih,vg]
  by_cases e:w=u
  ·simp [e]
  ·have:¬ u=w:=λz=>e z.symm
   simp [e,this]
section
open PySem PySem.Spec
mutual
noncomputable def lbD:D->Nat
 | .tup xs=>3+lbA xs
 | .lst xs=>3+lbA xs
 | .int _=>33
 | .str x=>(PyData.shown (.str x)).length
 | .non=>5
 | .bl _=>5
noncomputable def lbA:List D->Nat
 | []=>0
 | x::xs=>lbD x+2+lbA xs
end
mutual
def smD:D->Prop
 | .tup xs=>smA xs
 | .lst xs=>smA xs
 | .int i=>i.natAbs < 10 ^ 31
 | .str _=>True
 | .non=>True
 | .bl _=>True
def smA:List D->Prop
 | []=>True
 | x::xs=>smD x/\smA xs
end
theorem Gb (ts:List PySem.Str):(PySem.tupleText ts).length<=3+piled ts:=by
 have h:(join ", " ts).length<=piled ts:=by
  cases ts with
  | nil=>exact zero_le _
  | cons t ts =>
   have:=PySem.join_length_add (t::ts) (by simp)
   omega
 unfold PySem.tupleText
 rw [strLen_append,strLen_append]
 have e1:((("(":String):PySem.Str)).length=1:=rfl
 have e3:(((if ts.length == 1 then ",)" else ")":String):PySem.Str)).length<=2:=by split<;>decide
 omega
theorem A3:∀ ts:List PySem.Str,(ts.map (·.length)).sum+2*ts.length<=piled ts
 | []=>by simp [piled]
 | t::ts=>by
  have:=A3 ts
  rw [PySem.piled_cons,map_cons,sum_cons,length_cons]
  omega
theorem LA (ts:List PySem.Str):(PySem.listText ts).length<=3+piled ts:=by
 have:=A3 ts
 unfold PySem.listText
 rw [strLen_append]
 have q:=PySem.textFrom_len_le ts 0 (PySem.Str.ofString "[")
 have e1:((PySem.Str.ofString "[")).length=1:=rfl
 have e3:((PySem.Str.ofString "]")).length=1:=rfl
 omega
mutual
theorem Dt:∀ d:D,smD d->(pd d).showable=true/\(pd d).depth<=dep d/\(pd d).shown.length<=lbD d
 | .tup xs,h=>by
  rw [smD] at h
  obtain ⟨a1,a2,a3⟩:=zK xs h
  refine ⟨by rw [pd,showable];exact a1,by rw [pd,depth,dep];omega,?_⟩
  rw [pd,PyData.shown,lbD]
  exact le_trans (Gb _) (by omega)
 | .lst xs,h=>by
  rw [smD] at h
  obtain ⟨a1,a2,a3⟩:=zK xs h
  refine ⟨by rw [pd,showable];exact a1,by rw [pd,depth,dep];omega,?_⟩
  rw [pd,PyData.shown,lbD]
  exact le_trans (LA _) (by omega)
 | .int i,h=>by
  rw [smD] at h
  refine ⟨?_,by rw [pd,depth];exact zero_le _,?_⟩
  ·rw [pd,showable,decide_eq_true_eq]
   by_cases z:i.natAbs=0
   ·rw [z];decide
   ·rw [Nat.log2_lt z]
    exact Nat.lt_trans h (by decide +kernel)
  ·rw [pd,PyData.shown,lbD]
   have:=PySem.int_text_length_le10 (k:=31) (by omega) h
   rw [PySem.ofString_length]
   omega
 | .str x,h=>⟨by rw [pd,showable],by rw [pd,depth];exact zero_le _,by rw [pd,lbD];exact le_refl _⟩
 | .non,h=>⟨by rw [pd,showable],by rw [pd,depth];exact zero_le _,by rw [pd,PyData.shown,lbD];decide⟩
 | .bl b,h=>⟨by rw [pd,showable],by rw [pd,depth];exact zero_le _,by cases b<;>(rw [pd,PyData.shown,lbD];decide)⟩
theorem zK:∀ ds:List D,smA ds->showableAll (pdA ds)=true/\depthAll (pdA ds)<=depA ds/\piled (shownAll (pdA ds))<=lbA ds
 | [],h=>⟨by rw [pdA,showableAll],by rw [pdA,depthAll];exact zero_le _,by rw [pdA,shownAll];simp [piled]⟩
 | d::ds,h=>by
  rw [smA] at h
  obtain ⟨a1,a2,a3⟩:=zK ds h.2
  obtain ⟨b1,b2,b3⟩:=Dt d h.1
  refine ⟨by rw [pdA,showableAll,b1,a1];rfl,by rw [pdA,depthAll,depA];omega,?_⟩
  rw [pdA,shownAll,PySem.piled_cons,lbA]
  omega
end
theorem Bw {d:D} (h:smD d) (h1:dep d<=50) (h2:lbD d<=16000000):reprG [d]=some (.str (pd d).shown):=by
 obtain ⟨a1,a2,a3⟩:=Dt d h
 unfold reprG
 simp only
 rw [if_pos ⟨a1,by omega,by rw [PySem.sizeLine_eq];omega⟩]
end
inductive TreeD (n b:Nat):Nat->D->Prop
 | left {k:Nat}{l:List Int}:l.length=n->(∀ x∈l,0<=x/\x<=9)->TreeD n b (k+1) (.tup [.str "left", letD l])
 | meet {k:Nat}{l:List Int}{ts:List D}:l.length=n->(∀ x∈l,0<=x/\x<=9)->(∀ t∈ts,TreeD n b k t)->ts.length<=b->TreeD n b (k+1) (.tup [.str "meet", letD l,.lst ts])
theorem Dw {n:Nat}{R C:List Wish}{l:List Int} (hR:∀ w∈R,Wf n w) (hC:∀ w∈C,Wf n w) (hn:n<=3) (hl:l.length=n) (lR:R.length<=100) (lC:C.length<=100) :
  cvF xL [.lst (R.map wishD),.lst (C.map wishD),letD l]=some (.bl (!(R.filter λw=>hasB w l).isEmpty&&(C.filter λw=>hasB w l).isEmpty)):=by
 have has:∀ {ws:List Wish},(∀ w∈ws,Wf n w)->∀ w∈ws,cvF uB [wishD w,letD l]=some (.bl (hasB w l)):=λak w hw=>wt (by rw [(ak w hw).len,hl]) (by rw [(ak w hw).len];omega)
 refine uE ?_
 refine tZ rfl λKE hE _=>?_
 rw [zf]
 refine sH λK hK ao=>?_
 simp
 refine tU R wishD (λw=>hasB w l) (λ_=>.int 1) ?_
 simp
 refine ⟨by omega,λw hw=>?_,?_⟩
 ·rw [sR (has hR w hw)]
  simp
 have ic:∀ ws:List Wish,(ws.filter λw=>hasB w l).isEmpty=decide (∀ a∈ws,hasB a l=false):=λws=>by
  rw [Bool.eq_iff_iff,List.isEmpty_iff,decide_eq_true_iff,filter_eq_nil_iff]
  simp
 rw [ic,ic] at hE
 by_cases z:∀ a∈R,hasB a l=false
 ·rw [if_pos z]
  rw [decide_eq_true z] at hE
  exact ao _ _ (hE _ _ ⟨_,rfl,rfl⟩)
 ·rw [if_neg z]
  rw [decide_eq_false z] at hE
  refine hK _ ?_
  simp
  refine tU C wishD (λw=>hasB w l) (λ_=>.int 1) ?_
  simp
  refine ⟨by omega,λw hw=>?_,?_⟩
  ·rw [sR (has hC w hw)]
   simp
  rw [ic]
  exact hE _ _ ⟨_,rfl,rfl⟩
noncomputable def okC (R C:List Wish) (l:List Int):Bool:=!(R.filter λw=>hasB w l).isEmpty&&(C.filter λw=>hasB w l).isEmpty
theorem len0 {α:Type} (xs:List α):xs.isEmpty=decide (xs.length=0):=by cases xs<;>simp
section
variable {n:Nat}{R C:List Wish}{l:List Int}{ts:List D}{m:Int}{f:Nat} (hR:∀ w∈R,Wf n w) (hC:∀ w∈C,Wf n w) (hn:n<=3) (hl:l.length=n) (lR:R.length<=100) (lC:C.length<=90)
include hR hC hn hl lR lC
omit hR hC hn hl lR lC in
theorem beq0 (m:Int):(m == 0)=decide (m=0):=by rw [Bool.eq_iff_iff];simp
theorem Iq:cvF (t9 (f+1)) [.lst (R.map wishD),.lst (C.map wishD),.int m,.tup [.str "left", letD l]]=some (.bl (okC R C l&&decide (m=0))):=by
 have a1:=vH hR hn hl (by omega)
 have a2:=vH hC hn hl (by omega)
 unfold okC
 rw [len0,len0]
 refine uE ?_
 rw [t9]
 refine tZ rfl λKE hE _=>?_
 rw [wq]
 refine sH λK hK _=>⟨_,_,rfl,hK _ ?_⟩
 refine sH λK hK _=>?_
 simp
 rw [sR a1]
 refine ⟨by simp,hK _ ?_⟩
 generalize R.filter (λw=>hasB w l)=hv at *
 generalize C.filter (λw=>hasB w l)=cv at *
 refine sH λK hK ao=>?_
 by_cases c1:hv.length=0
 ·simp [dep,c1]
  exact ao _ _ (hE _ _ ⟨_,rfl,by simp [c1]⟩)
 ·simp [dep,c1]
  rw [sR a2]
  simp
  by_cases c2:0 < cv.length
  ·rw [if_pos c2]
   exact ao _ _ (hE _ _ ⟨_,rfl,by simp [c1,show ¬ cv.length=0 by omega]⟩)
  ·rw [if_neg c2]
   refine hK _ ?_
   clear hK ao
   refine sH λK hK ao=>?_
   simp [dep,deq]
   exact ao _ _ (hE _ _ ⟨_,rfl,by simp [c1,show cv.length=0 by omega,beq0]⟩)
theorem Kn (bf:Wish×D->Bool) (lt:ts.length<=100) (bY:∀ p∈(R.filter λw=>hasB w l).zip ts,cvF (t9 f) [.lst (R.map wishD),.lst (C.map wishD++[wishD p.1]),.int (m - 1),p.2]=some (.bl (bf p))) :
  cvF (t9 (f+1)) [.lst (R.map wishD),.lst (C.map wishD),.int m,.tup [.str "meet", letD l,.lst ts]]=some (.bl (okC R C l&&(!decide (m=0)&&(decide (ts.length=(R.filter λw=>hasB w l).length)&&((R.filter λw=>hasB w l).zip ts).all bf)))):=by
 have a1:=vH hR hn hl (by omega)
 have a2:=vH hC hn hl (by omega)
 have ou:(R.filter λw=>hasB w l).length<=100:=le_trans (length_filter_le _ _) lR
 unfold okC
 rw [len0,len0]
 refine uE ?_
 rw [t9]
 refine tZ rfl λKE hE _=>?_
 rw [wq]
 refine sH λK hK _=>⟨_,_,rfl,hK _ ?_⟩
 refine sH λK hK _=>?_
 simp
 rw [sR a1]
 refine ⟨by simp,hK _ ?_⟩
 generalize R.filter (λw=>hasB w l)=hv at *
 generalize C.filter (λw=>hasB w l)=cv at *
 refine sH λK hK ao=>?_
 by_cases c1:hv.length=0
 ·simp [dep,c1]
  exact ao _ _ (hE _ _ ⟨_,rfl,by simp [c1]⟩)
 simp [dep,c1]
 rw [sR a2]
 simp
 by_cases c2:0 < cv.length
 ·rw [if_pos c2]
  exact ao _ _ (hE _ _ ⟨_,rfl,by simp [c1,show ¬ cv.length=0 by omega]⟩)
 rw [if_neg c2]
 have qV:cv.length=0:=by omega
 refine hK _ ?_
 clear hK ao
 refine sH λK hK ao=>?_
 have dq:deq (.str "meet") (.str "left")=false:=by simp [deq];decide
 simp [dep,dq]
 refine hK _ ?_
 clear hK ao
 refine sH λK hK ao=>?_
 by_cases c3:m=0
 ·simp [dep,c3]
  exact ao _ _ (hE _ _ ⟨_,rfl,by simp [c3]⟩)
 by_cases c4:ts.length=hv.length
 ·simp [dep,c3,c4]
  refine hK _ ?_
  clear hK ao
  simp
  refine wk (hv.zip ts) (λp=>.tup [wishD p.1,p.2]) (λ_=>true) (λp=>.bl (bf p)) ?_
  simp
  refine ⟨?_,by omega,λa b qW=>⟨by omega,?_⟩,?_⟩
  ·unfold pairsD
   rw [← map_id ts,zip_map,map_map,map_id]
   rfl
  ·rw [sR (bY (a,b) qW)]
   exact ⟨rfl,_,_,rfl⟩
  ·rw [sR yM]
   exact hE _ _ ⟨_,rfl,by simp [c1,qV,c3,c4]⟩
 ·simp [dep,c3,c4]
  rw [if_neg (by omega)]
  exact ao _ _ (hE _ _ ⟨_,rfl,by simp [c4]⟩)
theorem Iv:cvF (ue (f+1)) [.lst (R.map wishD),.lst (C.map wishD),.int m,.tup [.str "left", letD l]]=some (.bl (okC R C l&&decide (m=0))):=by
 have lk:=Dw hR hC hn hl (by omega) (by omega)
 refine uE ?_
 rw [ue]
 refine tZ rfl λKE hE _=>?_
 rw [wb]
 refine sH λK hK ao=>?_
 simp
 rw [sR lk]
 cases e:okC R C l with
 | false =>
  have e':(!(R.filter λw=>hasB w l).isEmpty&&(C.filter λw=>hasB w l).isEmpty)=false:=e
  rw [e']
  rw [e] at hE
  simp
  exact ao _ _ (hE _ _ ⟨_,rfl,rfl⟩)
 | true =>
  have e':(!(R.filter λw=>hasB w l).isEmpty&&(C.filter λw=>hasB w l).isEmpty)=true:=e
  rw [e']
  rw [e] at hE
  simp
  refine hK _ ?_
  clear hK ao
  refine sH λK hK ao=>?_
  simp [dep,deq]
  exact ao _ _ (hE _ _ ⟨_,rfl,by simp [beq0]⟩)
theorem Fv (bf:Wish×D->Bool) (lt:ts.length<=100) (bY:∀ p∈(R.filter λw=>hasB w l).zip ts,cvF (ue f) [.lst (R.map wishD),.lst (C.map wishD++[wishD p.1]),.int (m - 1),p.2]=some (.bl (bf p))) :
  cvF (ue (f+1)) [.lst (R.map wishD),.lst (C.map wishD),.int m,.tup [.str "meet", letD l,.lst ts]]=some (.bl (okC R C l&&(!decide (m < 1)&&(decide (ts.length=(R.filter λw=>hasB w l).length)&&((R.filter λw=>hasB w l).zip ts).all bf)))):=by
 have lk:=Dw hR hC hn hl (by omega) (by omega)
 have ou:(R.filter λw=>hasB w l).length<=100:=le_trans (length_filter_le _ _) lR
 have has:∀ w∈R,cvF uB [wishD w,letD l]=some (.bl (hasB w l)):=λw hw=>wt (by rw [(hR w hw).len,hl]) (by rw [(hR w hw).len];omega)
 refine uE ?_
 rw [ue]
 refine tZ rfl λKE hE _=>?_
 rw [wb]
 refine sH λK hK ao=>?_
 simp
 rw [sR lk]
 cases e:okC R C l with
 | false =>
  have e':(!(R.filter λw=>hasB w l).isEmpty&&(C.filter λw=>hasB w l).isEmpty)=false:=e
  rw [e']
  rw [e] at hE
  simp
  exact ao _ _ (hE _ _ ⟨_,rfl,rfl⟩)
 | true =>
  have e':(!(R.filter λw=>hasB w l).isEmpty&&(C.filter λw=>hasB w l).isEmpty)=true:=e
  rw [e']
  rw [e] at hE
  simp
  refine hK _ ?_
  clear hK ao e' e lk
  refine sH λK hK ao=>?_
  have dq:deq (.str "meet") (.str "left")=false:=by simp [deq];decide
  simp [dep,dq]
  refine hK _ ?_
  clear hK ao
  refine sH λK hK ao=>?_
  simp
  refine tU R wishD (λw=>hasB w l) wishD ?_
  simp
  refine ⟨by omega,λw hw=>?_,hK _ ?_⟩
  ·rw [sR (has w hw)]
   simp
  clear hK ao
  generalize R.filter (λw=>hasB w l)=hv at *
  refine sH λK hK ao=>?_
  by_cases c3:m < 1
  ·simp [dep,c3]
   exact ao _ _ (hE _ _ ⟨_,rfl,by simp [c3]⟩)
  by_cases c4:ts.length=hv.length
  ·simp [dep,c3,c4]
   refine hK _ ?_
   clear hK ao
   refine sH λK hK ao=>?_
   simp
   have ep:pairsD (hv.map wishD) ts=(hv.zip ts).map λp=>D.tup [wishD p.1,p.2]:=by
    unfold pairsD
    rw [← map_id ts,zip_map,map_map,map_id]
    rfl
   rw [ep]
   refine ua (J:=λi Y=>(∀ (j:Nat) p,j < i->(hv.zip ts)[j]?=some p->bf p=true)/\∃ x y:Option DL.R,Y=[some (.val (.lst (R.map wishD))),some (.val (.lst (C.map wishD))),some (.val (.int m)),some (.val (.tup [.str "meet", letD l,.lst ts])),some (.val (.lst (hv.map wishD))),x,y]) ⟨λj p h=>absurd h (not_lt_zero j),none,none,rfl⟩ ?_ ?_
   ·rintro i d Y hd ⟨tr,x,y,rfl⟩ K aN _ _ il
    rw [getElem?_map,map_eq_some_iff] at hd
    obtain ⟨p,e1,rfl⟩:=hd
    have hp:=mem_of_getElem? e1
    simp
    rw [sR (bY p hp)]
    refine ⟨by omega,?_⟩
    cases eb:bf p with
    | false =>
     simp
     refine il _ _ (ao _ _ (hE _ _ ⟨_,rfl,?_⟩))
     have:(hv.zip ts).all bf=false:=List.all_eq_false.mpr ⟨p,hp,by rw [eb];decide⟩
     simp only [this,Bool.and_false]
    | true =>
     simp
     refine aN _ ⟨λj q hj hq=>?_,_,_,rfl⟩
     rcases lt_or_ge j i with z | z
     ·exact tr j q z hq
     ·have:j=i:=by omega
      rw [this,e1] at hq
      cases hq
      exact eb
   ·rintro Y ⟨tr,x,y,rfl⟩
    refine hK _ ?_
    simp
    refine hE _ _ ⟨_,rfl,?_⟩
    have:(hv.zip ts).all bf=true:=all_eq_true.mpr λp hp=>by
     obtain ⟨i,hi,ei⟩:=getElem_of_mem hp
     exact tr i p (by rw [length_map];exact hi) (by rw [getElem?_eq_getElem hi,ei])
    simp [this,c3,c4]
  ·simp [dep,c3,c4]
   rw [if_neg (by omega)]
   exact ao _ _ (hE _ _ ⟨_,rfl,by simp [c4]⟩)
end
theorem Cc {n:Nat}{R:List Wish} (hR:∀ w∈R,Wf n w) (hn:n<=3) (lR:R.length<=100){b k:Nat}{d:D} (hb:b<=100) (h:TreeD n b k d):∀ (f:Nat) (C:List Wish) (m:Int),k<=f->(∀ w∈C,Wf n w)->C.length+k<=90 →
  ∃ b,cvF (t9 f) [.lst (R.map wishD),.lst (C.map wishD),.int m,d]=some (.bl b)/\cvF (ue f) [.lst (R.map wishD),.lst (C.map wishD),.int m,d]=some (.bl b)/\(m < 0->b=false):=by
 induction h with
 | @left k l hl _ =>
  intro f C m hf hC lC
  obtain ⟨f,rfl⟩:∃ k,f=k+1:=⟨f - 1,by omega⟩
  exact ⟨_,Iq hR hC hn hl lR (by omega),Iv hR hC hn hl lR (by omega),λz=>by rw [decide_eq_false (by omega),Bool.and_false]⟩
 | @meet k l ts hl _ hts lts ih =>
  intro f C m hf hC lC
  obtain ⟨f,rfl⟩:∃ k,f=k+1:=⟨f - 1,by omega⟩
  have bY:∀ p∈(R.filter λw=>hasB w l).zip ts,∃ b,cvF (t9 f) [.lst (R.map wishD),.lst (C.map wishD++[wishD p.1]),.int (m - 1),p.2]=some (.bl b)/\cvF (ue f) [.lst (R.map wishD),.lst (C.map wishD++[wishD p.1]),.int (m - 1),p.2]=some (.bl b)/\(m - 1 < 0->b=false):=λp hp=>by
   have m1:=(mem_filter.mp (of_mem_zip hp).1).1
   have:=ih p.2 (of_mem_zip hp).2 f (C++[p.1]) (m - 1) (by omega) (λw hw=>by
    rcases mem_append.mp hw with z | z
    ·exact hC w z
    ·rw [mem_singleton.mp z];exact hR _ m1) (by rw [length_append];simp;omega)
   rwa [map_append] at this
  obtain ⟨bf,jg⟩:∃ bf:Wish×D->Bool,∀ p∈(R.filter λw=>hasB w l).zip ts,cvF (t9 f) [.lst (R.map wishD),.lst (C.map wishD++[wishD p.1]),.int (m - 1),p.2]=some (.bl (bf p))/\cvF (ue f) [.lst (R.map wishD),.lst (C.map wishD++[wishD p.1]),.int (m - 1),p.2]=some (.bl (bf p))/\(m - 1 < 0->bf p=false):=by
   refine ⟨λp=>match cvF (t9 f) [.lst (R.map wishD),.lst (C.map wishD++[wishD p.1]),.int (m - 1),p.2] with
    | some (.bl b)=>b
    | _=>false,λp hp=>?_⟩
   obtain ⟨b,e1,e2,e3⟩:=bY p hp
   dsimp only
   rw [e1]
   exact ⟨rfl,e2,e3⟩
  have r1:=Kn hR hC hn hl lR (by omega) bf (by omega) λp hp=>(jg p hp).1
  have r2:=Fv hR hC hn hl lR (by omega) bf (by omega) λp hp=>(jg p hp).2.1
  rcases Int.lt_or_le m 1 with z | z
  ·refine ⟨false,?_,?_,λ_=>rfl⟩
   ·rw [r1]
    by_cases m0:m=0
    ·simp [m0]
    ·cases e:okC R C l with
     | false=>simp
     | true =>
      by_cases el:ts.length=(R.filter λw=>hasB w l).length
      ·have:((R.filter λw=>hasB w l).zip ts).all bf=false:=by
        unfold okC at e
        cases eh:R.filter λw=>hasB w l with
        | nil=>rw [eh] at e;simp at e
        | cons w ws =>
         rw [eh] at el jg
         cases ts with
         | nil=>simp at el
         | cons t ts =>
          have:=(jg (w,t) mem_cons_self).2.2 (by omega)
          simp [this]
       simp [this]
      ·simp [el]
   ·rw [r2,decide_eq_true z]
    simp
  ·refine ⟨_,r1,?_,λh=>by omega⟩
   rw [r2,decide_eq_false (show ¬ m < 1 by omega),decide_eq_false (show ¬ m=0 by omega)]
theorem uN:∀ a b:List D,lbA (a++b)=lbA a+lbA b
 | [],b=>by rw [lbA];simp
 | x::a,b=>by rw [List.cons_append,lbA,lbA,uN a b];omega
theorem lettersT {n b k:Nat}{d:D} (h:TreeD n b k d):∀ f:Nat,k<=f->lbD d<=5000000->∃ ls:List (List Int),cvF (uV f) [d]=some (.lst (ls.map letD))/\(∀ l∈ls,l.length=n)/\10*ls.length<=lbD d:=by
 induction h with
 | @left k l l1 _ =>
  intro f hf _
  obtain ⟨f,rfl⟩:∃ k,f=k+1:=⟨f - 1,by omega⟩
  refine ⟨[l],uE ?_,by simpa using l1,by
   simp only [lbD,lbA]
   have:3<=lbD (letD l):=by unfold letD;rw [lbD];omega
   simp
   omega⟩
  rw [uV]
  refine tZ rfl λKE hE _=>?_
  rw [v6]
  refine sH λK hK _=>?_
  simp
  refine hK _ ?_
  refine sH λK hK _=>?_
  have dq:deq (.str "left") (.str "meet")=false:=by simp [deq];decide
  simp [dep,dq]
  refine hK _ ?_
  simp
  exact hE _ _ ⟨_,rfl,rfl⟩
 | @meet k l ts l1 _ hts lts ih =>
  intro f hf hb
  obtain ⟨f,rfl⟩:∃ k,f=k+1:=⟨f - 1,by omega⟩
  have sy:10+lbA ts<=lbD (.tup [.str "meet", letD l,.lst ts]):=by
   simp only [lbD,lbA]
   omega
  have aQ:wpF (uV (f+1)) [.val (.tup [.str "meet", letD l,.lst ts])] λr _=>∃ ls:List (List Int),r=.val (.lst (ls.map letD))/\(∀ l∈ls,l.length=n)/\10*ls.length<=10+lbA ts:=by
   rw [uV]
   refine tZ rfl λKE hE _=>?_
   rw [v6]
   refine sH λK hK _=>?_
   simp
   refine hK _ ?_
   refine sH λK hK _=>?_
   simp [dep,deq]
   refine u4 (J:=λi Y=>∃ (ls:List (List Int)) (x:Option DL.R),(∀ l∈ls,l.length=n)/\10*ls.length<=10+lbA (ts.take i)/\Y=[some (.val (.tup [.str "meet", letD l,.lst ts])),some (.own (ls.map letD)),x]) ⟨[l],none,by simpa using l1,by simp,rfl⟩ ?_ ?_
   ·rintro i t Y ht ⟨ls,x,a1,a2,rfl⟩
    have hi:=(List.getElem?_eq_some_iff.mp ht).1
    have st:lbA (ts.take (i+1))=lbA (ts.take i)+lbD t+2:=by
     rw [take_succ,ht,uN]
     simp only [Option.toList,lbA]
     omega
    have le:lbA (ts.take (i+1))<=lbA ts:=by
     have e:=uN (ts.take (i+1)) (ts.drop (i+1))
     rw [take_append_drop] at e
     omega
    obtain ⟨es,e1,e2,e3⟩:=ih t (mem_of_getElem? ht) f (by omega) (by omega)
    refine ⟨(),_,rfl,?_⟩
    show wp _ [some (.val (.tup [.str "meet", letD l,.lst ts])),some (.own (ls.map letD)),some (.val t)] _
    simp [isMut,DL.R.mut]
    rw [sR e1]
    simp
    refine ⟨by omega,ls++es,λl hl=>?_,?_,by simp⟩
    ·rcases mem_append.mp hl with z | z
     ·exact a1 l z
     ·exact e2 l z
    ·rw [length_append]
     omega
   ·rintro Y ⟨ls,x,a1,a2,rfl⟩
    refine hK _ ?_
    simp
    refine hE _ _ ⟨_,rfl,ls,rfl,a1,?_⟩
    rwa [take_length] at a2
  obtain ⟨r,rs,e,ls,rfl,h1,h2⟩:=aQ
  exact ⟨ls,by unfold cvF;simp only [map];rw [e],h1,by omega⟩
theorem EM {n:Nat}{ws R:List Wish} (ak:∀ u∈ws,Wf n u) (h1:1<=n) (hn:n<=3) (hl:ws.length<=18) (a:IsRoof ws R):cvF wI [.lst (ws.map wishD)]=some (.lst (R.map wishD)):=by
 obtain ⟨us,eu,mu,nu,ul⟩:=xh ws
 obtain ⟨ss,es,ms,sl⟩:=zZ ws
 have da:=uD (dd (ws.map wishD))
 rw [eu] at da
 rw [Fs ak h1 hn (by omega) es ms sl,Hs eu mu nu es ms]
 have:IsRoof ws (us.filter λw=>!undB us w):=⟨da.sublist (filter_sublist.map _),nu.filter _,λw=>by
  rw [mem_filter,mu,wA mu]
  simp⟩
 rw [this.alone a]
theorem Cw:∀ xs ys:List Wish,deqA (xs.map wishD) (ys.map wishD)=decide (xs=ys)
 | [],[]=>by simp [deqA]
 | [],y::ys=>by simp [deqA]
 | x::xs,[]=>by simp [deqA]
 | x::xs,y::ys=>by
  rw [map_cons,map_cons,deqA,vg,Cw xs ys,Bool.eq_iff_iff]
  simp
theorem DC (xs ys:List Wish):deq (.lst (xs.map wishD)) (.lst (ys.map wishD))=decide (xs=ys):=by
 rw [deq,Cw]
noncomputable def goodB (R sm:List Wish):Bool:=decide ((R.filter λw=>decide (w∈sm))=sm)
theorem JW {R sm us:List Wish} (uR:Rises R) (nR:R.Nodup) (uU:Rises us) (nU:us.Nodup) (m:∀ w,w∈us↔w∈sm):goodB R sm=true↔sm=us/\∀ w∈sm,w∈R:=by
 unfold goodB
 rw [decide_eq_true_eq]
 constructor
 ·intro e
  have sub:∀ w∈sm,w∈R:=λw hw=>by
   rw [← e] at hw
   exact (mem_filter.mp hw).1
  refine ⟨xQ ?_ uU ?_ nU λw=>(m w).symm,sub⟩
  ·rw [← e]
   exact uR.sublist (filter_sublist.map _)
  ·rw [← e]
   exact nR.sublist filter_sublist
 ·rintro ⟨e,sub⟩
  subst e
  exact Ld uR nR uU nU sub
section
variable {n k:Nat}{ws R sm:List Wish}{t:D}{m:Int}{bt:Bool} (ak:∀ w∈ws,Wf n w) (h1:1<=n) (hn:n<=3) (a:IsRoof ws R) (lw:ws.length<=7) (lR:R.length<=ws.length) (hs:∀ w∈sm,Wf n w) (ls:sm.length<=12)
include ak h1 hn a lw lR hs ls
theorem CZ {b:Nat} (ht:TreeD n b k t) (hk:k<=15) (hb:lbD t<=5000000) (et:cvF (t9 20) [.lst (R.map wishD),.lst [],.int (m - 1),t]=some (.bl bt)) :
  cvF ve [.lst (ws.map wishD),.tup [.int m,.lst (sm.map wishD),t]]=some (.bl (decide ((sm.length:Int)=m)&&(goodB R sm&&(R.all (inB1 sm)&&bt)))):=by
 have hR:∀ w∈R,Wf n w:=λw hw=>ak w (a.sub hw)
 have eJ:=Bd ak h1 hn (by omega) a
 obtain ⟨tl,qX,ll,lc⟩:=lettersT ht 20 (by omega) hb
 obtain ⟨o,eo,o1,o2⟩:=CO hR hs hn (by omega) (by omega)
 have on:isN (optD o)=R.all (inB1 sm):=by
  cases o with
  | none =>
   have:R.all (inB1 sm)=true:=all_eq_true.mpr λw hw=>xA.mpr (o1 rfl w hw)
   rw [this]
   rfl
  | some l =>
   obtain ⟨q1,q2,w,hw,q3⟩:=o2 l rfl
   have:R.all (inB1 sm)=false:=List.all_eq_false.mpr ⟨w,hw,λz=>by
    obtain ⟨u,hu,q4⟩:=xA.mp z l (uQ.mpr ⟨by rw [q1,(hR w hw).len],q3⟩)
    exact absurd hu (vO q2 q4)⟩
   rw [this]
   rfl
 have kin:=xz (n:=n) (ds:=ws.map wishD++(sm.map wishD++tl.map letD)) λd hd=>by
  rcases mem_append.mp hd with z | z
  ·obtain ⟨w,hw,rfl⟩:=mem_map.mp z
   exact ⟨_,rfl,by rw [length_map];exact (ak w hw).len⟩
  ·rcases mem_append.mp z with z | z
   ·obtain ⟨w,hw,rfl⟩:=mem_map.mp z
    exact ⟨_,rfl,by rw [length_map];exact (hs w hw).len⟩
   ·obtain ⟨l,hl,rfl⟩:=mem_map.mp z
    exact ⟨_,rfl,by rw [length_map];exact ll l hl⟩
 refine uE ?_
 refine tZ rfl λKE hE _=>?_
 rw [yC]
 refine sH λK hK _=>⟨_,_,rfl,hK _ ?_⟩
 refine sH λK hK _=>⟨_,_,rfl,hK _ ?_⟩
 refine sH λK hK _=>?_
 simp
 rw [sR qX]
 simp
 rw [sR kin]
 refine ⟨by omega,by omega,hK _ ?_⟩
 refine sH λK hK _=>?_
 simp
 rw [sR eJ]
 refine ⟨by simp,hK _ ?_⟩
 refine sH λK hK ao=>?_
 by_cases c1:(sm.length:Int)=m
 ·subst c1
  simp [dep]
  refine tU R wishD (λw=>decide (w∈sm)) wishD ?_
  have dw:∀ w:Wish,dep (wishD w)<=99:=λw=>le_trans vo (by decide)
  simp only [C',BM,getElem?_cons_succ,List.getElem?_cons_zero,zP,yB]
  refine ⟨trivial,by omega,λw hw b=>?_,?_⟩
  ·simp [dw]
   have:=DM sm w
   rw [any_map] at this
   exact this
  rw [DC]
  refine ⟨.inl (le_trans (vI sm) (by decide)),?_⟩
  by_cases c2:sm=R.filter λw=>decide (w∈sm)
  ·have g:goodB R sm=true:=decide_eq_true c2.symm
   rw [decide_eq_true c2,if_pos rfl]
   refine hK _ ?_
   clear hK ao
   rw [g] at hE
   simp
   rw [sR eo,on]
   cases e3:R.all (inB1 sm) with
   | false =>
    rw [e3] at hE
    simp
    exact hE _ _ ⟨_,rfl,by simp⟩
   | true =>
    rw [e3] at hE
    simp
    rw [sR et]
    exact hE _ _ ⟨_,rfl,by simp⟩
  ·have g:goodB R sm=false:=decide_eq_false λz=>c2 z.symm
   rw [decide_eq_false c2,if_neg (by decide)]
   exact ao _ _ (hE _ _ ⟨_,rfl,by rw [g];simp⟩)
 ·simp [dep,c1]
  exact ao _ _ (hE _ _ ⟨_,rfl,by simp [c1]⟩)
end
section
variable {n k:Nat}{ws R sm:List Wish}{t:D}{m:Int}{bt:Bool} (ak:∀ w∈ws,Wf n w) (h1:1<=n) (hn:n<=3) (a:IsRoof ws R) (lw:ws.length<=7) (lR:R.length<=ws.length) (hs:∀ w∈sm,Wf n w) (ls:sm.length<=12)
include ak h1 hn a lw lR hs ls
theorem Gx (et:cvF (ue 20) [.lst (R.map wishD),.lst [],.int (m - 1),t]=some (.bl bt)) :
  cvF v3 [.lst (ws.map wishD),.tup [.int m,.lst (sm.map wishD),t]]=some (.bl (decide ((sm.length:Int)=m)&&(goodB R sm&&(R.all (inB1 sm)&&bt)))):=by
 have hR:∀ w∈R,Wf n w:=λw hw=>ak w (a.sub hw)
 have eJ:=EM ak h1 hn (by omega) a
 obtain ⟨us,eu,mu,nu,ul⟩:=xh sm
 have ij:(dd (sm.map wishD)).length<=18:=by
  have:=zI (sm.map wishD)
  simp at this
  omega
 have st:=Bu hs h1 ij
 have up:=uD (dd (sm.map wishD))
 rw [eu] at st up
 have gi:=JW a.up a.nd up nu mu
 have dw:∀ w:Wish,dep (wishD w)<=99:=λw=>le_trans vo (by decide)
 refine uE ?_
 refine tZ rfl λKE hE _=>?_
 rw [zv]
 refine sH λK hK _=>?_
 simp
 refine hK _ ?_
 refine sH λK hK _=>?_
 simp
 rw [sR eJ]
 refine ⟨by simp,hK _ ?_⟩
 refine sH λK hK ao=>?_
 by_cases c1:(sm.length:Int)=m
 ·subst c1
  simp [dep]
  rw [sR st]
  rw [DC]
  refine ⟨.inl (le_trans (vI sm) (by decide)),?_⟩
  by_cases c2:sm=us
  ·rw [decide_eq_true c2,if_pos rfl]
   refine tU sm wishD (λw=>!decide (w∈R)) (λ_=>.int 1) ?_
   simp only [C',BM,getElem?_cons_succ,List.getElem?_cons_zero,zP,yB]
   refine ⟨trivial,by omega,λw hw b=>?_,?_⟩
   ·simp [dw]
    have:=DM R w
    rw [any_map] at this
    rw [this]
   refine ⟨.inr (by simp [depA]),?_⟩
   by_cases c3:∀ w∈sm,w∈R
   ·have g:goodB R sm=true:=gi.mpr ⟨c2,c3⟩
    have e0:(sm.filter λw=>!decide (w∈R))=[]:=filter_eq_nil_iff.mpr λw hw=>by simp [c3 w hw]
    rw [e0,if_pos List.map_nil]
    refine hK _ ?_
    clear hK ao
    rw [g] at hE
    refine sH λK hK ao=>?_
    simp
    refine ua (J:=λi Y=>(∀ (j:Nat) w,j < i->R[j]?=some w->AllIn sm w)/\∃ x y:Option DL.R,Y=[some (.val (.lst (ws.map wishD))),some (.val (.tup [.int (sm.length:Int),.lst (sm.map wishD),t])),some (.val (.int (sm.length:Int))),some (.val (.lst (sm.map wishD))),some (.val t),some (.val (.lst (R.map wishD))),x,y]) ⟨λj w h=>absurd h (not_lt_zero j),none,none,rfl⟩ ?_ ?_
    ·rintro i d Y hd ⟨tr,x,y,rfl⟩ K aN _ _ il
     rw [getElem?_map,map_eq_some_iff] at hd
     obtain ⟨w,e1,rfl⟩:=hd
     have hw:=mem_of_getElem? e1
     have el:=Mw (w:=w) (λp hp=>(hR w hw).all p hp) (by rw [(hR w hw).len];exact hn)
     rw [Kv] at el
     refine ⟨(),_,rfl,?_⟩
     show wp _ [some (.val (.lst (ws.map wishD))),some (.val (.tup [.int (sm.length:Int),.lst (sm.map wishD),t])),some (.val (.int (sm.length:Int))),some (.val (.lst (sm.map wishD))),some (.val t),some (.val (.lst (R.map wishD))),some (.val (wishD w)),y] _
     simp
     rw [sR el]
     simp
     refine ua (J:=λi Y=>(∀ (j:Nat) l,j < i->(lettersR w)[j]?=some l->∃ u∈sm,hasB u l=true)/\∃ y:Option DL.R,Y=[some (.val (.lst (ws.map wishD))),some (.val (.tup [.int (sm.length:Int),.lst (sm.map wishD),t])),some (.val (.int (sm.length:Int))),some (.val (.lst (sm.map wishD))),some (.val t),some (.val (.lst (R.map wishD))),some (.val (wishD w)),y]) ⟨λj w h=>absurd h (not_lt_zero j),y,rfl⟩ ?_ ?_
     ·rintro i' d Y hd ⟨lD,y,rfl⟩ K ow _ _ ox
      rw [getElem?_map,map_eq_some_iff] at hd
      obtain ⟨l,e2,rfl⟩:=hd
      have hl:=mem_of_getElem? e2
      obtain ⟨l1,l2⟩:=uQ.mp hl
      refine ⟨(),_,rfl,?_⟩
      show wp _ [some (.val (.lst (ws.map wishD))),some (.val (.tup [.int (sm.length:Int),.lst (sm.map wishD),t])),some (.val (.int (sm.length:Int))),some (.val (.lst (sm.map wishD))),some (.val t),some (.val (.lst (R.map wishD))),some (.val (wishD w)),some (.val (letD l))] _
      simp
      refine tU sm wishD (λu=>hasB u l) (λ_=>.int 1) ?_
      simp
      refine ⟨by omega,λu hu=>?_,?_⟩
      ·rw [sR (wt (w:=u) (l:=l) (by rw [(hs u hu).len,l1,(hR w hw).len]) (by rw [(hs u hu).len];omega))]
       simp
      by_cases z:∀ u∈sm,hasB u l=false
      ·rw [if_pos z]
       refine ox _ _ (il _ _ (ao _ _ (hE _ _ ⟨_,rfl,?_⟩)))
       have:R.all (inB1 sm)=false:=List.all_eq_false.mpr ⟨w,hw,λq=>by
        obtain ⟨u,hu,q4⟩:=xA.mp q l hl
        rw [z u hu] at q4
        cases q4⟩
       rw [this]
       simp
      ·rw [if_neg z]
       refine ow _ ⟨λj l' hj hq=>?_,_,rfl⟩
       rcases lt_or_ge j i' with z' | z'
       ·exact lD j l' z' hq
       ·have:j=i':=by omega
        rw [this,e2] at hq
        cases hq
        simpa using z
     ·rintro Y ⟨lD,y,rfl⟩
      refine aN _ ⟨λj v hj hq=>?_,_,_,rfl⟩
      rcases lt_or_ge j i with z' | z'
      ·exact tr j v z' hq
      ·have:j=i:=by omega
       rw [this,e1] at hq
       cases hq
       intro l hl
       obtain ⟨i2,bQ,lE⟩:=getElem_of_mem hl
       exact lD i2 l (by rw [length_map];exact bQ) (by rw [getElem?_eq_getElem bQ,lE])
    ·rintro Y ⟨tr,x,y,rfl⟩
     refine hK _ ?_
     simp
     rw [sR et]
     refine hE _ _ ⟨_,rfl,?_⟩
     have:R.all (inB1 sm)=true:=all_eq_true.mpr λw hw=>xA.mpr (by
      obtain ⟨i2,bQ,lE⟩:=getElem_of_mem hw
      exact tr i2 w (by rw [length_map];exact bQ) (by rw [getElem?_eq_getElem bQ,lE]))
     rw [this]
     simp
   ·have g:goodB R sm=false:=by
     rw [← Bool.not_eq_true,gi]
     exact λz=>c3 z.2
    rw [if_neg]
    ·exact ao _ _ (hE _ _ ⟨_,rfl,by rw [g];simp⟩)
    ·rw [List.map_eq_nil_iff,filter_eq_nil_iff]
     intro z
     refine c3 λw hw=>?_
     simpa using z w hw
  ·have g:goodB R sm=false:=by
    rw [← Bool.not_eq_true,gi]
    exact λz=>c2 z.1
   simp [c2]
   exact ao _ _ (hE _ _ ⟨_,rfl,by rw [g];simp⟩)
 ·have qY:¬ m=(sm.length:Int):=λz=>c1 z.symm
  simp [dep,qY]
  exact ao _ _ (hE _ _ ⟨_,rfl,by simp [c1]⟩)
end
theorem Dx:lbD (.str "left")<=60:=by rw [lbD];decide +kernel
theorem Ds:lbD (.str "meet")<=60:=by rw [lbD];decide +kernel
theorem Ew:∀ l:List Int,lbA (l.map .int)=35*l.length
 | []=>by simp [lbA]
 | x::l=>by rw [map_cons,lbA,lbD,Ew l,length_cons];omega
theorem xC {n:Nat}{l:List Int} (hn:n<=3) (h:l.length=n):lbD (letD l)<=108:=by
 unfold letD
 rw [lbD,Ew]
 omega
theorem yV:∀ {w:Wish}{l:List Int},w.length=l.length->(∀ p∈w,PairOk p)->hasB w l=true->∀ x∈l,0<=x/\x<=9
 | [],[],_,_,_,x,hx=>by cases hx
 | p::w,y::l,hl,hw,h,x,hx=>by
  have h':l.length=w.length:=by simpa using hl.symm
  unfold hasB at h
  rw [zip_cons_cons,all_cons,and_eq_true] at h
  have q:=hw p mem_cons_self
  have q1:=q.lo
  have q2:=q.hi
  rcases mem_cons.mp hx with z | z
  ·have:=h.1
   simp at this
   rw [z]
   omega
  ·exact yV h'.symm (λp hp=>hw p (mem_cons_of_mem _ hp)) h.2 x z
theorem LR {n:Nat}{R:List Wish} (hR:∀ w∈R,Wf n w){b:Nat} (lR:R.length<=b){m:Nat}{C:List Wish}{d:D} (h:RightT n R C m d):TreeD n b (m+1) d:=by
 induction h with
 | @left C l l1 l2 l3 =>
  obtain ⟨w,hw,hl⟩:=l3
  exact .left l1 (yV (by rw [(hR w hw).len,l1]) (hR w hw).all hl)
 | @meet C l m ts l1 l2 l3 tl tr ih =>
  obtain ⟨w,hw,hl⟩:=l3
  have le:(R.filter λw=>hasB w l).length<=R.length:=length_filter_le _ _
  refine .meet l1 (yV (by rw [(hR w hw).len,l1]) (hR w hw).all hl) (λt ht=>?_) (by omega)
  obtain ⟨i,hi,ei⟩:=getElem_of_mem ht
  exact ih i _ t (getElem?_eq_getElem (by omega)) (by rw [getElem?_eq_getElem hi,ei])
theorem Af {b:Nat}:∀ ts:List D,(∀ t∈ts,lbD t+2<=b)->lbA ts<=ts.length*b
 | [],_=>by simp [lbA]
 | t::ts,h=>by
  have h1:=h t mem_cons_self
  have h2:=Af ts λx hx=>h x (mem_cons_of_mem _ hx)
  rw [lbA,length_cons,Nat.add_mul]
  omega
theorem FP {n:Nat}{R:List Wish} (hn:n<=3) (nR:R.Nodup){m:Nat}{C:List Wish}{d:D} (h:RightT n R C m d):∀ k:Nat,(∀ c∈C,c∈R)->C.Nodup->R.length<=C.length+k->lbD d+2<=202*nodes k:=by
 have ll:=Dx
 have lm:=Ds
 induction h with
 | @left C l l1 l2 l3 =>
  intro k _ _ _
  have:=xC hn l1
  have n1:1<=nodes k:=by cases k<;>(rw [nodes];omega)
  rw [lbD,lbA,lbA,lbA]
  omega
 | @meet C l m ts l1 l2 l3 tl tr ih =>
  intro k sub nC hk
  have few:=Gw nR nC sub l2
  obtain ⟨w0,qZ,ra⟩:=l3
  have pos:0 < (R.filter λw=>hasB w l).length:=List.length_pos_of_mem (mem_filter (p:=λw=>hasB w l).mpr ⟨qZ,ra⟩)
  obtain ⟨k,rfl⟩:∃ j,k=j+1:=⟨k - 1,by omega⟩
  have dW:∀ t∈ts,lbD t+2<=202*nodes k:=λt ht=>by
   obtain ⟨i,hi,ei⟩:=getElem_of_mem ht
   have ba:i < (R.filter λw=>hasB w l).length:=by omega
   obtain ⟨f1,f2⟩:=mem_filter.mp (getElem_mem ba)
   refine ih i _ t (getElem?_eq_getElem ba) (by rw [getElem?_eq_getElem hi,ei]) k (λc hc=>?_) (nodup_append.mpr ⟨nC,by simp,λa ha b hb e=>?_⟩) (by simp;omega)
   ·rcases mem_append.mp hc with z | z
    ·exact sub c z
    ·rw [mem_singleton.mp z];exact f1
   ·rw [mem_singleton.mp hb] at e
    subst e
    exact vO l2 f2 ha
  have b1:=Af ts dW
  have b2:ts.length*(202*nodes k)<=(k+1)*(202*nodes k):=Nat.mul_le_mul_right _ (by omega)
  have b3:(k+1)*(202*nodes k)=202*((k+1)*nodes k):=by rw [Nat.mul_left_comm]
  have:=xC hn l1
  rw [lbD,lbA,lbA,lbA,lbA,lbD,nodes,Nat.mul_add]
  omega
theorem TreeD.mono {n b a k:Nat}{d:D} (hb:b<=a) (h:TreeD n b k d):∀ {j:Nat},k<=j->TreeD n a j d:=by
 induction h with
 | left l1 l2 =>
  intro j hj
  obtain ⟨j,rfl⟩:∃ i,j=i+1:=⟨j - 1,by omega⟩
  exact .left l1 l2
 | meet l1 l2 _ lt ih =>
  intro j hj
  obtain ⟨j,rfl⟩:∃ i,j=i+1:=⟨j - 1,by omega⟩
  exact .meet l1 l2 (λt ht=>ih t ht (by omega)) (by omega)
theorem vm:∀ ds:List D,smA ds↔∀ d∈ds,smD d
 | []=>by simp [smA]
 | d::ds=>by rw [smA,vm ds];simp
theorem zM {x:Int} (h:0<=x/\x<=9):smD (.int x):=by
 rw [smD]
 have:x.natAbs < 10:=by omega
 exact Nat.lt_trans this (by decide)
theorem CI {l:List Int} (h:∀ x∈l,0<=x/\x<=9):smD (letD l):=by
 unfold letD
 rw [smD,vm]
 intro d hd
 obtain ⟨x,hx,rfl⟩:=mem_map.mp hd
 exact zM (h x hx)
theorem TreeD.small {n b k:Nat}{d:D} (h:TreeD n b k d):smD d/\dep d<=2*k+1:=by
 have dl:∀ l:List Int,dep (letD l)<=1:=λl=>by
  unfold letD
  rw [dep]
  have:depA (l.map .int)<=0:=xb λd hd=>by
   obtain ⟨x,_,rfl⟩:=mem_map.mp hd
   simp [dep]
  omega
 induction h with
 | @left k l l1 l2 =>
  have:=dl l
  refine ⟨?_,?_⟩
  ·rw [smD,vm]
   intro d hd
   simp at hd
   rcases hd with rfl | rfl
   ·rw [smD];trivial
   ·exact CI l2
  ·simp only [dep,depA]
   omega
 | @meet k l ts l1 l2 _ lt ih =>
  have:=dl l
  refine ⟨?_,?_⟩
  ·rw [smD,vm]
   intro d hd
   simp at hd
   rcases hd with rfl | rfl | rfl
   ·rw [smD];trivial
   ·exact CI l2
   ·rw [smD,vm]
    exact λt ht=>(ih t ht).1
  ·have:depA ts<=2*k+1:=xb λt ht=>(ih t ht).2
   simp only [dep,depA]
   omega
theorem AC {c:List D}{n:Nat}{ws:List Wish}{Q:R->List D->Prop} (hc:PotOk c) (ak:∀ w∈ws,Wf n w) (ne:ws≠[]) (hn:n<=3) (lw:ws.length<=100) (k:∀ l c',l.length=n->(∀ x∈l,0<=x/\x<=9)->PotOk c'->Q (.val (letD l)) c'):wpB wl c [.lst (ws.map wishD)] Q:=by
 have pos:=length_pos_iff.mpr ne
 refine uT rfl λKE hE _=>?_
 rw [y8]
 refine tL (λab=>∃ (c:List D) (w:Wish),PotOk c/\w∈ws/\ab=[some (.bor c),some (.val (.lst (ws.map wishD))),some (.val (wishD w)),none]) (λK hK _=>?_) ?_
 ·simp [isMut,R.mut]
  refine tG hc (by omega) (by omega) λi c i1 i2 hc=>?_
  obtain ⟨w,hw,e⟩:=v8 (f:=wishD) i1 (by omega)
  simp
  rw [sR e]
  exact ⟨by simp,hK _ ⟨c,w,hc,hw,rfl⟩⟩
 rintro ab ⟨c,w,hc,hw,rfl⟩
 refine tL (λab=>∃ (c:List D) (o:Int),PotOk c/\(o=0\/o=1)/\ab=[some (.bor c),some (.val (.lst (ws.map wishD))),some (.val (wishD w)),some (.val (.int o))]) (λK hK _=>?_) ?_
 ·simp [isMut,R.mut]
  refine tG hc (by omega) (by omega) λi c i1 i2 hc=>?_
  simp
  exact hK _ ⟨c,i,hc,by omega,rfl⟩
 rintro ab ⟨c,o,hc,ho,rfl⟩
 simp
 have wf:=ak w hw
 refine Gc (λi ae Y=>∃ (c:List D) (l:List Int),PotOk c/\ae=l.map D.int/\l.length=i/\(∀ x∈l,0<=x/\x<=9)/\Y=[some (.bor c),some (.val (.lst (ws.map wishD))),some (.val (wishD w)),some (.val (.int o))]) ?_
 have it:wp (itS (nm 2)) [some (.bor c),some (.val (.lst (ws.map wishD))),some (.val (wishD w)),some (.val (.int o))] λds ab=>ds=w.map pairD/\ab=[some (.bor c),some (.val (.lst (ws.map wishD))),some (.val (wishD w)),some (.val (.int o))]:=by simp [wishD]
 refine it.mono ?_
 rintro ds ab ⟨rfl,rfl⟩
 refine ⟨by rw [length_map,wf.len];unfold lim;omega,⟨c,[],hc,rfl,rfl,by simp,rfl⟩,?_,?_⟩
 ·rintro i d ae a ah hd ⟨c,l,hc,rfl,hl,hb,rfl⟩
  rw [getElem?_map,map_eq_some_iff] at hd
  obtain ⟨p,e1,rfl⟩:=hd
  have pk:=wf.all p (mem_of_getElem? e1)
  have p1:=pk.lo
  have p2:=pk.hi
  have p3:=pk.le
  refine ⟨(),_,rfl,?_⟩
  show wp _ [some (.val (pairD p)),some (.bor c),some (.val (.lst (ws.map wishD))),some (.val (wishD w)),some (.val (.int o))] _
  simp [isMut,R.mut,pairD]
  refine tG hc (by omega) (by omega) λx c x1 x2 hc=>?_
  simp [isMut,R.mut]
  refine tG hc (by omega) (by omega) λy c y1 y2 hc=>?_
  rcases ho with rfl | rfl
  ·simp
   exact ⟨_,_,⟨rfl,rfl⟩,c,hc,l++[p.1+x],by simp,by simp [hl],λz hz=>by
    rcases mem_append.mp hz with q | q
    ·exact hb z q
    ·rw [mem_singleton.mp q];omega,rfl⟩
  ·simp
   exact ⟨_,_,⟨rfl,rfl⟩,c,hc,l++[y],by simp,by simp [hl],λz hz=>by
    rcases mem_append.mp hz with q | q
    ·exact hb z q
    ·rw [mem_singleton.mp q];omega,rfl⟩
 ·rintro ae ah ⟨c,l,hc,rfl,hl,hb,rfl⟩
  rw [length_map,wf.len] at hl
  exact hE _ _ _ ⟨_,rfl⟩ (k l c hl hb hc)
theorem Cb:∀ ds:List D,lbA ds.reverse=lbA ds
 | []=>rfl
 | d::ds=>by rw [List.reverse_cons,uN,Cb ds,lbA,lbA,lbA];omega
theorem Lc (ds:List D) (lo hi:Option Int):lbA (cutD ds lo hi)<=lbA ds:=by
 unfold cutD
 have e1:=uN (ds.take (HT.sIx ds.length 0 lo)) (ds.drop (HT.sIx ds.length 0 lo))
 rw [take_append_drop] at e1
 generalize ds.drop (HT.sIx ds.length 0 lo)=es at *
 generalize HT.sIx ds.length ds.length hi - HT.sIx ds.length 0 lo=j at *
 have e2:=uN (es.take j) (es.drop j)
 rw [take_append_drop] at e2
 omega
theorem Fa {ds:List D}{lo hi:Option Int}:(∀ d∈cutD ds lo hi,d∈ds)/\(cutD ds lo hi).length<=ds.length:=by
 unfold cutD
 refine ⟨λd h=>mem_of_mem_drop (mem_of_mem_take h),?_⟩
 rw [length_take,length_drop]
 omega
theorem yF (ds:List D){i:Int} (h:0<=i):cutD ds none (some i)=ds.take i.toNat:=by
 have:=B6 (ds:=ds) (n:=i.toNat)
 rwa [Int.toNat_of_nonneg h] at this
theorem x0 (ds:List D){i:Int} (h:0<=i):cutD ds (some i) none=ds.drop i.toNat:=by
 have:=Cg (ds:=ds) (n:=i.toNat)
 rwa [Int.toNat_of_nonneg h] at this
theorem vZ {n:Nat}{l:List Int} (hn:n<=3) (h:l.length=n):lbD (.tup [.str "left", letD l])<=175:=by
 have h1:=Dx
 have h2:=xC hn h
 rw [lbD,lbA,lbA,lbA]
 omega
theorem xc {n:Nat}{l:List Int}{ts:List D} (hn:n<=3) (h:l.length=n):lbD (.tup [.str "meet", letD l,.lst ts])<=180+lbA ts:=by
 have h1:=Ds
 have h2:=xC hn h
 rw [lbD,lbA,lbA,lbA,lbA,lbD]
 omega
theorem Jk (l:List Int) (ts us:List D):lbD (.tup [.str "meet", letD l,.lst ts])+lbA us=lbD (.tup [.str "meet", letD l,.lst us])+lbA ts:=by
 rw [lbD,lbA,lbA,lbA,lbA,lbD,lbD,lbA,lbA,lbA,lbA,lbD]
 omega
theorem Lk {n b:Nat}{ws:List Wish} (ak:∀ w∈ws,Wf n w) (ne:ws≠[]) (hn:n<=3) (lw:ws.length<=100) (hb:b<=100){k:Nat}{t:D} (h:TreeD n b k t):∀ (f:Nat) (c:List D) (Q:R->List D->Prop),k<=f->PotOk c →
  (∀ t' c',TreeD n (2*b+1) (k+1) t'->lbD t'<=2*lbD t+300->PotOk c'->Q (.val t') c')->wpB (u3 f) c [.lst (ws.map wishD),t] Q:=by
 induction h with
 | @left k l l1 l2 =>
  intro f c Q hf hc hq
  obtain ⟨f,rfl⟩:∃ k,f=k+1:=⟨f - 1,by omega⟩
  rw [u3]
  refine uT rfl λKE hE _=>?_
  rw [v9]
  refine wK rfl rfl rfl (tG hc (by omega) (by omega) λsh c s1 s2 hc=>⟨_,rfl,?_⟩)
  refine wK rfl rfl rfl (AC hc ak ne hn lw λle c e1 e2 hc=>⟨_,rfl,?_⟩)
  refine GG rfl λK ao=>?_
  have:sh % 4=0\/sh % 4=1\/sh % 4=2\/sh % 4=3:=by omega
  have t0:TreeD n (2*b+1) (k+1+1) (.tup [.str "left", letD le]):=.left e1 e2
  have t1:TreeD n (2*b+1) (k+1+1) (.tup [.str "meet", letD l,.lst []]):=.meet l1 l2 (by simp) (by simp)
  have t2:TreeD n (2*b+1) (k+1+1) (.tup [.str "meet", letD le,.lst [.tup [.str "left", letD l]]]):=.meet e1 e2 (λt ht=>by
   rw [mem_singleton.mp ht]
   exact .left l1 l2) (by simp)
  have b0:=vZ hn e1
  have b1:=xc (ts:=[]) hn l1
  have b2:=xc (ts:=[.tup [.str "left", letD l]]) hn e1
  rw [lbA] at b1
  rw [lbA,lbA] at b2
  refine Je rfl rfl ?_
  rcases this with z | z | z | z<;>rw [z]
  ·exact ⟨_,rfl,ao _ _ (hE _ _ _ ⟨_,rfl⟩ (hq _ _ t0 (by omega) hc))⟩
  ·exact ⟨_,rfl,ao _ _ (hE _ _ _ ⟨_,rfl⟩ (hq _ _ t1 (by omega) hc))⟩
  ·exact ⟨_,rfl,ao _ _ (hE _ _ _ ⟨_,rfl⟩ (hq _ _ t2 (by omega) hc))⟩
  ·exact ⟨_,rfl,ao _ _ (hE _ _ _ ⟨_,rfl⟩ (hq _ _ t0 (by omega) hc))⟩
 | @meet k l ts l1 l2 hts lts ih =>
  intro f c Q hf hc hq
  obtain ⟨f,rfl⟩:∃ k,f=k+1:=⟨f - 1,by omega⟩
  have eK:∀ t∈ts,TreeD n (2*b+1) (k+1) t:=λt ht=>(hts t ht).mono (by omega) (by omega)
  rw [u3]
  refine uT rfl λKE hE _=>?_
  rw [v9]
  refine wK rfl rfl rfl (tG hc (by omega) (by omega) λsh c s1 s2 hc=>⟨_,rfl,?_⟩)
  refine wK rfl rfl rfl (AC hc ak ne hn lw λle c e1 e2 hc=>⟨_,rfl,?_⟩)
  refine Kf rfl ?_
  refine Ip rfl rfl ?_
  have b0:=vZ hn e1
  refine sH λK hK ao=>?_
  by_cases z0:ts=[]
  ·simp [z0,dep,depA]
   exact ao _ _ (hE _ _ _ ⟨_,rfl⟩ (hq _ _ (.left e1 e2) (by omega) hc))
  simp [z0,dep,depA]
  refine hK _ ?_
  clear hK ao
  have pos:=length_pos_iff.mpr z0
  refine wK rfl rfl rfl (tG hc (by omega) (by omega) λj c j1 j2 hc=>⟨_,rfl,?_⟩)
  obtain ⟨t,et⟩:∃ t,ts[j.toNat]?=some t:=⟨_,getElem?_eq_getElem (by omega)⟩
  have ej:atI ts j=some t:=by
   have:=uh (ds:=ts) (n:=j.toNat)
   rwa [Int.toNat_of_nonneg j1,et] at this
  have ht:=mem_of_getElem? et
  have sp:lbA ts=lbA (ts.take j.toNat)+lbD t+2+lbA (ts.drop (j.toNat+1)):=by
   have e1:=uN (ts.take j.toNat) (ts.drop j.toNat)
   rw [take_append_drop,drop_eq_getElem_cons (show j.toNat < ts.length by omega),lbA] at e1
   rw [getElem?_eq_getElem (by omega)] at et
   cases et
   omega
  have jj:(j+1).toNat=j.toNat+1:=by omega
  have mt:∀ x∈ts.take j.toNat,x∈ts:=λx hx=>mem_of_mem_take hx
  have md:∀ x∈ts.drop (j.toNat+1),x∈ts:=λx hx=>mem_of_mem_drop hx
  have l5:(ts.take j.toNat).length+(ts.drop (j.toNat+1)).length+1<=ts.length:=by
   rw [length_take,length_drop]
   omega
  have im:=λus=>Jk l ts us
  have rf:=im []
  rw [lbA] at rf
  by_cases c4:sh < 4
  ·refine BJ rfl c4 λK ao=>?_
   simp [isMut,R.mut]
   rw [yF ts j1,sR ej]
   refine ih t ht f c _ (by omega) hc λt' c t1 t2 hc=>?_
   simp [x0 ts (show 0<=j+1 by omega),jj]
   have:=im (ts.take j.toNat++t'::ts.drop (j.toNat+1))
   rw [uN,lbA] at this
   refine ⟨?_,?_,ao _ _ (hE _ _ _ ⟨_,rfl⟩ (hq _ _ (.meet l1 l2 (λx hx=>?_) ?_) ?_ hc))⟩
   ·omega
   ·omega
   ·rcases mem_append.mp hx with z | z
    ·exact eK x (mt x z)
    ·rcases mem_cons.mp z with z | z
     ·rw [z];exact t1
     ·exact eK x (md x z)
   ·rw [length_append,length_cons]
    omega
   ·omega
  refine Cy rfl c4 ?_
  have sA:=Lc ts (some j) (some (j+1))
  obtain ⟨cm,cl⟩:=Fa (ds:=ts) (lo:=some j) (hi:=some (j+1))
  generalize ecu:cutD ts (some j) (some (j+1))=cu at *
  refine sH λK hK _=>?_
  simp [yF ts j1,x0 ts (show 0<=j+1 by omega),jj,un1,negI,ecu]
  refine ⟨?_,?_,hK _ ?_⟩
  ·omega
  ·omega
  by_cases c7:sh < 7
  ·refine BJ rfl c7 λK ao=>?_
   simp
   have:sh=4\/sh=5\/sh=6:=by omega
   have b4:=im (ts.take j.toNat++ts.drop (j.toNat+1))
   have b5:=im (ts++cu)
   have b6:=im ts.reverse
   rw [uN] at b4 b5
   rw [Cb] at b6
   rcases this with rfl | rfl | rfl<;>simp
   ·refine ao _ _ (hE _ _ _ ⟨_,rfl⟩ (hq _ _ (.meet l1 l2 (λx hx=>?_) (by rw [length_append];omega)) (by omega) hc))
    rcases mem_append.mp hx with z | z
    ·exact eK x (mt x z)
    ·exact eK x (md x z)
   ·refine ao _ _ (hE _ _ _ ⟨_,rfl⟩ (hq _ _ (.meet l1 l2 (λx hx=>?_) (by rw [length_append];omega)) (by omega) hc))
    rcases mem_append.mp hx with z | z
    ·exact eK x z
    ·exact eK x (cm x z)
   ·refine ao _ _ (hE _ _ _ ⟨_,rfl⟩ (hq _ _ (.meet l1 l2 (λx hx=>eK x (List.mem_reverse.mp hx)) (by rw [List.length_reverse];omega)) (by omega) hc))
  refine Cy rfl c7 ?_
  have:sh=7\/sh=8:=by omega
  have b7:=xc (ts:=ts) hn e1
  have b8:=vZ hn l1
  rcases this with rfl | rfl<;>simp
  ·exact hE _ _ _ ⟨_,rfl⟩ (hq _ _ (.meet e1 e2 eK (by omega)) (by omega) hc)
  ·exact hE _ _ _ ⟨_,rfl⟩ (hq _ _ (.left l1 l2) (by omega) hc)
def Thing (n b k L S:Nat) (B:Int) (d:D):Prop:=∃ (m:Int) (sm:List Wish) (t:D),d=.tup [.int m,.lst (sm.map wishD),t]/\-B<=m/\m<=B/\(∀ w∈sm,Wf n w)/\sm.length<=S/\TreeD n b k t/\lbD t<=L
noncomputable def mixH (a b:Wish):Wish:=(a.zip b).map λq=>(min q.1.1 q.2.1,max q.1.2 q.2.2)
theorem Kh {n:Nat}{a b:Wish} (ha:Wf n a) (hb:Wf n b):Wf n (mixH a b):=by
 refine ⟨?_,λp hp=>?_⟩
 ·unfold mixH
  rw [length_map,length_zip,ha.len,hb.len]
  exact Nat.min_self n
 ·obtain ⟨q,hq,rfl⟩:=mem_map.mp hp
  obtain ⟨x,y⟩:=q
  obtain ⟨h1,h2⟩:=of_mem_zip hq
  have p1:=ha.all _ h1
  have p2:=hb.all _ h2
  have a1:=p1.lo
  have a2:=p1.le
  have a3:=p1.hi
  have b1:=p2.lo
  have b2:=p2.le
  have b3:=p2.hi
  exact ⟨by simp;omega,by simp;omega,by simp;omega⟩
theorem Cj {n b k L S:Nat}{B:Int}{ws:List Wish}{d:D}{c:List D}{Q:R->List D->Prop} (ak:∀ w∈ws,Wf n w) (ne:ws≠[]) (h1:1<=n) (hn:n<=3) (lw:ws.length<=100) (hb:b<=100) (hk:k<=20) (hS:S<=50) (hc:PotOk c) (h:Thing n b k L S B d)
  (q:∀ d' c',Thing n (2*b+1) (k+1) (2*L+300) (S+1) (B+10 ^ 30) d'->PotOk c'->Q (.val d') c'):wpB xV c [.lst (ws.map wishD),d] Q:=by
 obtain ⟨m,sm,t,rfl,m1,m2,hs,ls,ht,hL⟩:=h
 have tup:TreeD n (2*b+1) (k+1) t:=ht.mono (by omega) (by omega)
 have pos:=length_pos_iff.mpr ne
 refine uT rfl λKE hE _=>?_
 have q':∀ (m':Int) (io:List Wish) (c':List D) af,(-(B+10 ^ 30)<=m'/\m'<=B+10 ^ 30)->(∀ w∈io,Wf n w)->io.length<=S+1->PotOk c'->(∃ z,fin ([.lst (ws.map wishD),.tup [.int m,.lst (sm.map wishD),t]].map .val) af=some z)->KE (.rt (.val (.tup [.int m',.lst (io.map wishD),t]))) (some (.bor c')::af):=λm' io c' af a1 a2 a3 a4 a5=>hE _ _ _ a5 (q _ _ ⟨m',io,t,rfl,a1.1,a1.2,a2,a3,tup,by omega⟩ a4)
 rw [zV]
 refine sH λK hK _=>?_
 simp
 refine hK _ ?_
 refine sH λK hK _=>?_
 simp [isMut,R.mut]
 refine tG hc (by omega) (by omega) λwh c w1 w2 hc=>?_
 simp
 refine hK _ ?_
 refine sH λK hK _=>?_
 simp [isMut,R.mut]
 refine tG hc (by omega) (by omega) λj c j1 j2 hc=>?_
 simp
 refine hK _ ?_
 refine sH λK hK _=>?_
 simp [isMut,R.mut]
 refine tG hc (by omega) (by omega) λi c i1 i2 hc=>?_
 obtain ⟨w,hw,ew⟩:=v8 (f:=wishD) i1 (by omega)
 simp
 rw [sR ew]
 refine ⟨by simp,hK _ ?_⟩
 obtain ⟨v,hv,ev⟩:=v8 (f:=wishD) (Int.le_refl 0) (by omega:(0:Int) < ws.length)
 have wv:=ak v hv
 have ww:=ak w hw
 refine sH λK hK _=>?_
 simp
 refine wk (w.zip v) (λq=>.tup [pairD q.1,pairD q.2]) (λ_=>true) (λq=>pairD (min q.1.1 q.2.1,max q.1.2 q.2.2)) ?_
 simp
 rw [sR ev]
 simp [wishD]
 refine ⟨?_,by rw [ww.len];omega,λ_ _ _ _ _=>rfl,hK _ ?_⟩
 ·unfold pairsD
  rw [zip_map,map_map]
  rfl
 have rg:D.tup ((w.zip v).map λq=>pairD (min q.1.1 q.2.1,max q.1.2 q.2.2))=wishD (mixH w v):=by
  unfold wishD mixH
  rw [map_map]
  rfl
 have ew:D.tup (w.map pairD)=wishD w:=rfl
 rw [ew]
 refine sH λK hK _=>?_
 have oy:lenF [wishD w]=some (.int (n:Int)):=by
  unfold wishD
  simp [ww.len]
 simp
 rw [sR oy]
 refine ⟨by simp,hK _ ?_⟩
 refine tL (λab=>∃ (c:List D) (u:Wish) (x y:Option R),PotOk c/\Wf n u/\ab=[some (.bor c),some (.val (.lst (ws.map wishD))),some (.val (.tup [.int m,.lst (sm.map wishD),t])),some (.val (.int m)),some (.val (.lst (sm.map wishD))),some (.val t),some (.val (.int wh)),some (.val (.int j)),some (.val (wishD u)),x,y]) (λK hK _=>?_) ?_
 ·simp [isMut,R.mut]
  refine y0 hc (by omega) (by omega) (by omega) (by omega) λu c hu hc=>?_
  simp [isMut,R.mut]
  rw [rg]
  refine tG hc (by omega) (by omega) λz c z1 z2 hc=>?_
  have:z=0\/z=1\/z=2\/z=3:=by omega
  rcases this with rfl | rfl | rfl | rfl<;>simp
  ·exact hK _ ⟨c,w,_,_,hc,ww,rfl⟩
  ·exact hK _ ⟨c,w,_,_,hc,ww,rfl⟩
  ·exact hK _ ⟨c,mixH w v,_,_,hc,Kh ww wv,rfl⟩
  ·exact hK _ ⟨c,u,_,_,hc,hu,rfl⟩
 rintro ab ⟨c,u,x,y,hc,hu,rfl⟩
 have e1:cutD (sm.map wishD) none (some j)=(sm.take j.toNat).map wishD:=by rw [yF _ j1,map_take]
 have e2:cutD (sm.map wishD) (some j) none=(sm.drop j.toNat).map wishD:=by rw [x0 _ j1,map_drop]
 have e3:cutD (sm.map wishD) (some (j+1)) none=(sm.drop (j.toNat+1)).map wishD:=by rw [x0 _ (by omega),map_drop,show (j+1).toNat=j.toNat+1 by omega]
 have f1:∀ w∈sm.take j.toNat,Wf n w:=λw hw=>hs w (mem_of_mem_take hw)
 have f2:∀ w∈sm.drop j.toNat,Wf n w:=λw hw=>hs w (mem_of_mem_drop hw)
 have f3:∀ w∈sm.drop (j.toNat+1),Wf n w:=λw hw=>hs w (mem_of_mem_drop hw)
 have g2:(sm.take j.toNat).length+(sm.drop j.toNat).length=sm.length:=by
  rw [length_take,length_drop]
  omega
 have g3:(sm.drop (j.toNat+1)).length<=(sm.drop j.toNat).length:=by
  rw [length_drop,length_drop]
  omega
 generalize sm.take j.toNat=A at *
 generalize sm.drop j.toNat=B1 at *
 generalize sm.drop (j.toNat+1)=B2 at *
 have fu:∀ {xs:List Wish},(∀ w∈xs,Wf n w)->∀ w∈u::xs,Wf n w:=λh w hw=>by
  rcases mem_cons.mp hw with z | z
  ·rw [z];exact hu
  ·exact h w z
 have fa:∀ {xs ys:List Wish},(∀ w∈xs,Wf n w)->(∀ w∈ys,Wf n w)->∀ w∈xs++ys,Wf n w:=λh1 h2 w hw=>by
  rcases mem_append.mp hw with z | z
  ·exact h1 w z
  ·exact h2 w z
 have em:∀ xs ys:List Wish,xs.map wishD++wishD u::ys.map wishD=(xs++u::ys).map wishD:=λxs ys=>by simp
 by_cases z0:wh=0
 ·refine vR rfl z0 λK ao=>?_
  simp [isMut,R.mut,un1,negI]
  refine tG hc (by omega) (by omega) λz c z1 z2 hc=>?_
  have:z=0\/z=1\/z=2\/z=3\/z=4:=by omega
  rcases this with rfl | rfl | rfl | rfl | rfl<;>simp<;>exact ao _ _ (q' _ sm _ _ (by omega) hs (by omega) hc ⟨_,rfl⟩)
 refine vz rfl z0 ?_
 by_cases z1:wh=1
 ·refine vR rfl z1 λK ao=>?_
  simp [e1,e2]
  rw [em]
  refine ⟨by omega,by omega,ao _ _ (q' _ _ _ _ (by omega) (fa f1 (fu f2)) ?_ hc ⟨_,rfl⟩)⟩
  rw [length_append,length_cons]
  omega
 refine vz rfl z1 ?_
 by_cases z2:wh=2
 ·refine vR rfl z2 λK ao=>?_
  simp [e1,e3]
  rw [← map_append]
  refine ⟨by omega,ao _ _ (q' _ _ _ _ (by omega) (fa f1 f3) ?_ hc ⟨_,rfl⟩)⟩
  rw [length_append]
  omega
 refine vz rfl z2 ?_
 by_cases z3:wh=3
 ·refine vR rfl z3 λK ao=>?_
  simp [e1,e3]
  rw [em]
  refine ⟨by omega,by omega,ao _ _ (q' _ _ _ _ (by omega) (fa f1 (fu f3)) ?_ hc ⟨_,rfl⟩)⟩
  rw [length_append,length_cons]
  omega
 refine vz rfl z3 ?_
 by_cases z4:wh=4
 ·obtain ⟨us,eu,mu,lu⟩:=zZ (sm++[u])
  have so:=zG (fa hs (fu (xs:=[]) (by simp))) h1 (by simp;omega)
  rw [eu,map_append] at so
  have so:sortF [.lst (sm.map wishD++[wishD u])]=some (us.map wishD):=so
  refine vR rfl z4 λK ao=>?_
  simp
  rw [sR so]
  refine ⟨by omega,ao _ _ (q' _ _ _ _ (by omega) (λw hw=>fa hs (fu (xs:=[]) (by simp)) w ((mu w).mp hw)) ?_ hc ⟨_,rfl⟩)⟩
  rw [lu,length_append]
  simp
  omega
 refine vz rfl z4 ?_
 by_cases z5:wh=5
 ·refine vR rfl z5 λK ao=>?_
  simp [un1,negI]
  rw [← List.map_reverse]
  refine ao _ _ (q' _ _ _ _ (by omega) (λw hw=>hs w (List.mem_reverse.mp hw)) ?_ hc ⟨_,rfl⟩)
  rw [List.length_reverse]
  omega
 refine vz rfl z5 ?_
 simp [isMut,R.mut]
 refine Lk ak ne hn lw hb ht 20 c _ hk hc λt' c t1 t2 hc=>?_
 simp
 exact hE _ _ _ ⟨_,rfl⟩ (q _ _ ⟨m,sm,t',rfl,by omega,by omega,hs,by omega,t1,by omega⟩ hc)
theorem EG:∀ (xs:List Int) (x:Int),x<=xs.foldl mx x/\∀ y∈xs,y<=xs.foldl mx x
 | [],x=>⟨Int.le_refl _,by simp⟩
 | y::xs,x=>by
  obtain ⟨h1,h2⟩:=EG xs (mx x y)
  have:x<=mx x y/\y<=mx x y:=by unfold mx;split<;>omega
  rw [foldl_cons]
  refine ⟨by omega,λz hz=>?_⟩
  rcases mem_cons.mp hz with e | e
  ·rw [e];omega
  ·exact h2 z e
theorem Bm {c:Int}:∀ (xs:List Int) (x:Int),x<=c->(∀ y∈xs,y<=c)->xs.foldl mx x<=c
 | [],x,h,_=>h
 | y::xs,x,h,h'=>by
  rw [foldl_cons]
  refine Bm xs _ ?_ λz hz=>h' z (mem_cons_of_mem _ hz)
  have:=h' y mem_cons_self
  unfold mx
  split<;>omega
theorem J5 {ns:List Int}:∀ x∈ns,x<=maxI 0 ns:=λx hx=>by
 cases ns with
 | nil=>cases hx
 | cons y ns =>
  obtain ⟨h1,h2⟩:=EG ns y
  rcases mem_cons.mp hx with e | e
  ·rw [e];exact h1
  ·exact h2 x e
theorem Hh {ns:List Int}{c:Int} (ne:ns≠[]) (h:∀ x∈ns,x<=c):maxI 0 ns<=c:=by
 cases ns with
 | nil=>exact absurd rfl ne
 | cons y ns=>exact Bm ns y (h y mem_cons_self) λz hz=>h z (mem_cons_of_mem _ hz)
theorem A6:∀ (xs:List Int) (x:Int),xs.foldl mi x<=x/\∀ y∈xs,xs.foldl mi x<=y
 | [],x=>⟨Int.le_refl _,by simp⟩
 | y::xs,x=>by
  obtain ⟨h1,h2⟩:=A6 xs (mi x y)
  have:mi x y<=x/\mi x y<=y:=by unfold mi;split<;>omega
  rw [foldl_cons]
  refine ⟨by omega,λz hz=>?_⟩
  rcases mem_cons.mp hz with e | e
  ·rw [e];omega
  ·exact h2 z e
theorem EH {c:Int}:∀ (xs:List Int) (x:Int),c<=x->(∀ y∈xs,c<=y)->c<=xs.foldl mi x
 | [],x,h,_=>h
 | y::xs,x,h,h'=>by
  rw [foldl_cons]
  refine EH xs _ ?_ λz hz=>h' z (mem_cons_of_mem _ hz)
  have:=h' y mem_cons_self
  unfold mi
  split<;>omega
theorem Fc {ns:List Int}:∀ x∈ns,minI ns<=x:=λx hx=>by
 cases ns with
 | nil=>cases hx
 | cons y ns =>
  obtain ⟨h1,h2⟩:=A6 ns y
  rcases mem_cons.mp hx with e | e
  ·rw [e];exact h1
  ·exact h2 x e
theorem GN {ns:List Int}{c:Int} (ne:ns≠[]) (h:∀ x∈ns,c<=x):c<=minI ns:=by
 cases ns with
 | nil=>exact absurd rfl ne
 | cons y ns=>exact EH ns y (h y mem_cons_self) λz hz=>h z (mem_cons_of_mem _ hz)
theorem Thing.mono {n b k L S b' k' L' S':Nat}{B B':Int}{d:D} (h:Thing n b k L S B d) (hb:b<=b') (hk:k<=k') (hL:L<=L') (hS:S<=S') (hB:B<=B'):Thing n b' k' L' S' B' d:=by
 obtain ⟨m,sm,t,e,m1,m2,hs,ls,ht,l⟩:=h
 exact ⟨m,sm,t,e,by omega,by omega,hs,by omega,ht.mono hb hk,by omega⟩
theorem F4 {n b k L S:Nat}{B:Int}{ws R:List Wish}{d:D} (ak:∀ w∈ws,Wf n w) (h1:1<=n) (hn:n<=3) (a:IsRoof ws R) (lw:ws.length<=7) (lR:R.length<=ws.length) (hb:b<=100) (hk:k<=15) (hL:L<=5000000) (hS:S<=12) (h:Thing n b k L S B d) :
  ∃ x,cvF ve [.lst (ws.map wishD),d]=some (.bl x)/\cvF v3 [.lst (ws.map wishD),d]=some (.bl x):=by
 obtain ⟨m,sm,t,rfl,m1,m2,hs,ls,ht,l⟩:=h
 obtain ⟨bt,e1,e2,_⟩:=Cc (λw hw=>ak w (a.sub hw)) hn (by omega) hb ht 20 [] (m - 1) (by omega) (by simp) (by simp;omega)
 exact ⟨_,CZ ak h1 hn a lw lR hs (by omega) ht hk (by omega) e1,Gx ak h1 hn a lw lR hs (by omega) e2⟩
theorem IC {n:Nat}{w:Wish} (hn:n<=3) (h:Wf n w):lbD (wishD w)<=300:=by
 have e:∀ w:Wish,lbA (w.map pairD)=75*w.length:=λw=>by
  induction w with
  | nil=>simp [lbA]
  | cons p w ih =>
   have:lbD (pairD p)=73:=by
    unfold pairD
    rw [lbD,lbA,lbA,lbA,lbD,lbD]
   rw [map_cons,lbA,ih,this,length_cons]
   omega
 unfold wishD
 rw [lbD,e,h.len]
 omega
theorem HR {n:Nat}{w:Wish} (h:Wf n w):smD (wishD w):=by
 unfold wishD
 rw [smD,vm]
 intro d hd
 obtain ⟨p,hp,rfl⟩:=mem_map.mp hd
 have q:=h.all p hp
 have q1:=q.lo
 have q2:=q.le
 have q3:=q.hi
 unfold pairD
 rw [smD,smA,smA,smA]
 exact ⟨zM ⟨q1,by omega⟩,zM ⟨by omega,q3⟩,trivial⟩
theorem Ix {n b k L S:Nat}{B:Int}{d:D} (hn:n<=3) (hk:k<=15) (hL:L<=5000000) (hS:S<=12) (hB:B < 10 ^ 31) (h:Thing n b k L S B d):∃ z,reprG [d]=some (.str z):=by
 obtain ⟨m,sm,t,rfl,m1,m2,hs,ls,ht,l⟩:=h
 obtain ⟨s1,s2⟩:=ht.small
 refine ⟨_,Bw ?_ ?_ ?_⟩
 ·rw [smD,smA,smA,smA,smA,smD,smD,vm]
  refine ⟨?_,λd hd=>?_,s1,trivial⟩
  ·have:(m.natAbs:Int) < 10 ^ 31:=by omega
   exact_mod_cast this
  ·obtain ⟨w,hw,rfl⟩:=mem_map.mp hd
   exact HR (hs w hw)
 ·have:=vI sm
  simp only [dep,depA]
  omega
 ·have:=Af (b:=302) (sm.map wishD) λd hd=>by
   obtain ⟨w,hw,rfl⟩:=mem_map.mp hd
   have:=IC hn (hs w hw)
   omega
  rw [length_map] at this
  have h2:sm.length*302<=12*302:=Nat.mul_le_mul_right _ (by omega)
  rw [lbD,lbA,lbA,lbA,lbA,lbD,lbD]
  omega
theorem Ll {n:Nat}{ws R:List Wish}{d:D} (ak:∀ w∈ws,Wf n w) (hn:n<=3) (a:IsRoof ws R) (lR:R.length<=6) (h:FewD n R d):Thing n 6 6 (202*nodes 6) 6 7 d:=by
 obtain ⟨k,K,t,kl,sub,nK,uK,al,rt,rfl⟩:=h
 have hR:∀ w∈R,Wf n w:=λw hw=>ak w (a.sub hw)
 have kR:K.length<=R.length:=xq K R nK sub
 have lb:=FP hn a.nd rt 6 (by simp) (by simp) (by simpa using lR)
 exact ⟨_,K,t,rfl,by omega,by omega,λw hw=>hR w (sub w hw),by omega,(LR hR lR rt).mono (le_refl _) (by omega),by omega⟩
noncomputable def hf (S c:List D) (d:D) (n:Nat) (ws:List Wish) (r:Gm):Gm:=some (.val (.lst S))::some (.own c)::some (.val d)::some (.val (.int (n:Int)))::some (.val (.lst (ws.map wishD)))::r
section
variable {S c:List D}{d:D}{n:Nat}{ws:List Wish}{r:Gm}{x:Option R}
@[simp high] theorem hf1:(hf S c d n ws r)[1]?=some (some (.own c)):=rfl
@[simp high] theorem hf3:(hf S c d n ws r)[3]?=some (some (.val (.int (n:Int)))):=rfl
@[simp high] theorem hf4:(hf S c d n ws r)[4]?=some (some (.val (.lst (ws.map wishD)))):=rfl
@[simp high] theorem hf5:(hf S c d n ws r)[5]?=r[0]?:=rfl
@[simp high] theorem hf6:(hf S c d n ws r)[6]?=r[1]?:=rfl
@[simp high] theorem hf7:(hf S c d n ws r)[7]?=r[2]?:=rfl
@[simp high] theorem hf8:(hf S c d n ws r)[8]?=r[3]?:=rfl
@[simp high] theorem hf9:(hf S c d n ws r)[9]?=r[4]?:=rfl
@[simp high] theorem hf10:(hf S c d n ws r)[10]?=r[5]?:=rfl
@[simp high] theorem hf11:(hf S c d n ws r)[11]?=r[6]?:=rfl
@[simp high] theorem hf12:(hf S c d n ws r)[12]?=r[7]?:=rfl
@[simp high] theorem hf13:(hf S c d n ws r)[13]?=r[8]?:=rfl
@[simp high] theorem hf14:(hf S c d n ws r)[14]?=r[9]?:=rfl
@[simp] theorem hfS1 {c':List D}:(hf S c d n ws r).set 1 (some (.own c'))=hf S c' d n ws r:=rfl
@[simp] theorem hfS5:(hf S c d n ws r).set 5 x=hf S c d n ws (r.set 0 x):=rfl
@[simp] theorem hfS6:(hf S c d n ws r).set 6 x=hf S c d n ws (r.set 1 x):=rfl
@[simp] theorem hfS7:(hf S c d n ws r).set 7 x=hf S c d n ws (r.set 2 x):=rfl
@[simp] theorem hfS8:(hf S c d n ws r).set 8 x=hf S c d n ws (r.set 3 x):=rfl
@[simp] theorem hfS9:(hf S c d n ws r).set 9 x=hf S c d n ws (r.set 4 x):=rfl
@[simp] theorem hfS10:(hf S c d n ws r).set 10 x=hf S c d n ws (r.set 5 x):=rfl
@[simp] theorem hfS11:(hf S c d n ws r).set 11 x=hf S c d n ws (r.set 6 x):=rfl
@[simp] theorem hfS12:(hf S c d n ws r).set 12 x=hf S c d n ws (r.set 7 x):=rfl
@[simp] theorem hfS13:(hf S c d n ws r).set 13 x=hf S c d n ws (r.set 8 x):=rfl
@[simp] theorem hfS14:(hf S c d n ws r).set 14 x=hf S c d n ws (r.set 9 x):=rfl
theorem hfL:(hf S c d n ws r).length=r.length+5:=rfl
@[simp] theorem hfB {k:Nat}:k < (hf S c d n ws r).length↔k < r.length+5:=by rw [hfL]
end
theorem law_true (ns:List Int) (hl:ns.length<=63):∃ rs,vf [.val (.lst (ns.map D.int))]=some (.val (.bl true),rs):=by
 have aQ:wpF vf [.val (.lst (ns.map D.int))] λr _=>r=.val (.bl true):=by
  refine tZ rfl λKE hE _=>?_
  rw [yO]
  obtain ⟨c,e,hc⟩:=Jj ns
  refine sH λK hK _=>?_
  simp
  rw [sR e]
  refine ⟨by simp,hK _ ?_⟩
  clear hK e
  generalize ns.map D.int=S at *
  refine sH λK hK hR=>?_
  simp
  refine u4 (J:=λi Y=>∃ c x2 x3 x4 x5 x6 x7 x8 x9 bH bD bz bp bh,PotOk c/\Y=[some (.val (.lst S)),some (.own c),x2,x3,x4,x5,x6,x7,x8,x9,bH,bD,bz,bp,bh]) ⟨c,none,none,none,none,none,none,none,none,none,none,none,none,none,hc,rfl⟩ ?_ ?_
  ·rintro i d Y hd ⟨c,x2,x3,x4,x5,x6,x7,x8,x9,bH,bD,bz,bp,bh,hc,rfl⟩
   refine ⟨(),_,rfl,?_⟩
   show wp _ [some (.val (.lst S)),some (.own c),some (.val d),x3,x4,x5,x6,x7,x8,x9,bH,bD,bz,bp,bh] _
   refine tL (λab=>∃ (c:List D) (n:Nat),PotOk c/\1<=n/\n<=3/\ab=[some (.val (.lst S)),some (.own c),some (.val d),some (.val (.int (n:Int))),x4,x5,x6,x7,x8,x9,bH,bD,bz,bp,bh]) (λK hK _=>?_) ?_
   ·simp [isMut,R.mut]
    refine tG hc (by omega) (by omega) λm c m1 m2 hc=>?_
    simp
    refine hK _ ⟨c,(1+m).toNat,hc,by omega,by omega,?_⟩
    rw [show (((1+m).toNat:Nat):Int)=1+m by omega]
   rintro ab ⟨c,n,hc,n1,n3,rfl⟩
   refine tL (λab=>∃ (c:List D) (ws:List Wish),PotOk c/\(∀ w∈ws,Wf n w)/\ws≠[]/\ws.length<=6/\ab=hf S c d n ws [x5,x6,x7,x8,x9,bH,bD,bz,bp,bh]) (λK hK _=>?_) ?_
   ·simp [isMut,R.mut]
    refine Jm hc n1 n3 (by omega) (by omega) λws c ak lw hc=>?_
    simp [isMut,R.mut]
    refine tG hc (by omega) (by omega) λlo c lo1 sB hc=>?_
    simp [isMut,R.mut]
    obtain ⟨tp,et,t1,t2⟩:∃ tp:Int,atI [D.int 6,D.int 6,D.int 6,D.int 4] (n:Int)=some (.int tp)/\1<=tp/\tp<=6:=by
     have:n=1\/n=2\/n=3:=by omega
     rcases this with rfl | rfl | rfl
     ·exact ⟨6,rfl,by omega,by omega⟩
     ·exact ⟨6,rfl,by omega,by omega⟩
     ·exact ⟨4,rfl,by omega,by omega⟩
    rw [sR et]
    simp
    refine y0 hc (by omega) lo1 t1 (by omega) λw c hw hc=>?_
    simp
    refine ⟨by omega,hK _ ⟨c,ws++[w],hc,λu hu=>?_,by simp,by simp;omega,by simp [hf]⟩⟩
    rcases mem_append.mp hu with z | z
    ·exact ak u z
    ·rw [mem_singleton.mp z];exact hw
   rintro ab ⟨c,ws,hc,ak,ne,lw,rfl⟩
   obtain ⟨T,a,lT⟩:=L9 ws
   have nT:T≠[]:=λz=>by
    obtain ⟨w,hw⟩:=List.exists_mem_of_ne_nil ws ne
    obtain ⟨u,hu,_⟩:=a.over ak hw
    rw [z] at hu
    cases hu
   obtain ⟨d0,ef,fd⟩:=Gd ak n1 n3 a (by omega) lT nT
   have jh:=Ll ak n3 a (by omega) fd
   refine tL (λab=>ab=hf S c d n ws [some (.own [d0]),x6,x7,x8,x9,bH,bD,bz,bp,bh]) (λK hK _=>?_) ?_
   ·simp
    rw [sR ef]
    simp
    exact hK _ rfl
   rintro ab rfl
   refine tL (λab=>ab=hf S c d n ws [some (.own [d0]),some (.own []),x7,x8,x9,bH,bD,bz,bp,bh]) (λK hK _=>?_) ?_
   ·simp
    exact hK _ rfl
   rintro ab rfl
   refine tL (λab=>∃ (h:Wish) (x7:Option R),Wf n h/\ab=hf S c d n ws [some (.own [d0]),some (.own (h.map pairD)),x7,x8,x9,bH,bD,bz,bp,bh]) (λK hK _=>?_) ?_
   ·simp
    refine ⟨by omega,?_⟩
    refine u4 (J:=λi Y=>∃ (h:Wish) (x7:Option R),Wf i h/\Y=hf S c d n ws [some (.own [d0]),some (.own (h.map pairD)),x7,x8,x9,bH,bD,bz,bp,bh]) ⟨[],x7,⟨rfl,by simp⟩,rfl⟩ ?_ ?_
    ·rintro i d' Y hd ⟨h,x7,wh,rfl⟩
     obtain ⟨rfl,hi⟩:=xU hd
     obtain ⟨v,hv⟩:=List.exists_mem_of_ne_nil ws ne
     obtain ⟨gp,ok⟩:∃ gp:Wish->Int×Int,∀ w∈ws,PairOk (gp w)/\atI (w.map pairD) (i:Int)=some (pairD (gp w)):=by
      refine ⟨λw=>w.getD i (0,0),λw hw=>?_⟩
      have kn:i < w.length:=by rw [(ak w hw).len];omega
      dsimp only
      refine ⟨?_,?_⟩
      ·rw [getD_eq_getElem?_getD,getElem?_eq_getElem kn]
       exact (ak w hw).all _ (getElem_mem kn)
      ·rw [DL.uh,getElem?_map,getD_eq_getElem?_getD,getElem?_eq_getElem kn]
       rfl
     have pk:PairOk (minI (ws.map λw=>(gp w).1),maxI 0 (ws.map λw=>(gp w).2)):=by
      have q:=(ok v hv).1.le
      have q1:=Fc _ (mem_map.mpr ⟨v,hv,rfl⟩:(gp v).1∈ws.map λw=>(gp w).1)
      have q2:=J5 _ (mem_map.mpr ⟨v,hv,rfl⟩:(gp v).2∈ws.map λw=>(gp w).2)
      refine ⟨GN (by simpa using ne) λx hx=>?_,by dsimp only;omega,Hh (by simpa using ne) λx hx=>?_⟩
      ·obtain ⟨w,hw,rfl⟩:=mem_map.mp hx
       exact (ok w hw).1.lo
      ·obtain ⟨w,hw,rfl⟩:=mem_map.mp hx
       exact (ok w hw).1.hi
     have m1:minNF [.lst (ws.map λw=>.int (gp w).1)]=some (.int (minI (ws.map λw=>(gp w).1))):=by
      rw [← HB (by simpa using length_pos_iff.mpr ne),map_map]
      rfl
     have m2:maxNF [.lst (ws.map λw=>.int (gp w).2)]=some (.int (maxI 0 (ws.map λw=>(gp w).2))):=by
      rw [← Iy (by simpa using length_pos_iff.mpr ne),map_map]
      rfl
     refine ⟨(),_,rfl,?_⟩
     show wp _ (hf S c d n ws [some (.own [d0]),some (.own (h.map pairD)),some (.val (.int (0+(i:Int)))),x8,x9,bH,bD,bz,bp,bh]) _
     rw [Int.zero_add]
     simp [isMut,R.mut]
     refine tU ws wishD (λ_=>true) (λw=>.int (gp w).1) ?_
     simp
     refine ⟨by omega,λw hw=>?_,?_⟩
     ·have:=(ok w hw).2
      simp [wishD,this,pairD]
     rw [sR m1]
     refine tU ws wishD (λ_=>true) (λw=>.int (gp w).2) ?_
     simp
     refine ⟨by omega,λw hw=>?_,?_⟩
     ·have:=(ok w hw).2
      simp [wishD,this,pairD]
     rw [sR m2]
     have aJ:=wh.len
     simp
     refine ⟨by omega,_,wh.app pk,some (.val (.int (i:Int))),by rw [map_append];rfl⟩
    ·rintro Y ⟨h,x7,wh,rfl⟩
     rw [wZ] at wh
     exact hK _ ⟨h,x7,wh,rfl⟩
   rintro ab ⟨h,x7,wh,rfl⟩
   refine tL (λab=>∃ (c:List D) (l:List Int),PotOk c/\l.length=n/\(∀ x∈l,0<=x/\x<=9)/\ab=hf S c d n ws [some (.own [d0]),some (.own (h.map pairD)),x7,some (.val (letD l)),x9,bH,bD,bz,bp,bh]) (λK hK _=>?_) ?_
   ·simp [isMut,R.mut]
    refine AC hc ak ne n3 (by omega) λl c l1 l2 hc=>?_
    simp
    exact hK _ ⟨c,l,hc,l1,l2,rfl⟩
   rintro ab ⟨c,l,hc,l1,l2,rfl⟩
   obtain ⟨m0,jk,t0,e0,a1,a2,a3,a4,a5,a6⟩:=id jh
   obtain ⟨o,eo⟩:∃ o,o=[D.tup [.int 1,.lst [wishD h],.tup [.str "left", letD l]],D.tup [.int m0,.lst (jk.map wishD),.tup [.str "meet", letD l,.lst []]]]:=⟨_,rfl⟩
   have L0:202*nodes 6=395314:=by decide
   rw [L0] at jh
   have rh:∀ y∈o,Thing n 27 8 1582156 8 (7+10 ^ 30+10 ^ 30) y:=λy hy=>by
    rw [eo] at hy
    simp only [mem_cons,not_mem_nil,or_false] at hy
    rcases hy with rfl | rfl
    ·exact ⟨1,[h],_,rfl,by omega,by omega,by simpa using wh,by simp,.left l1 l2,le_trans (vZ n3 l1) (by omega)⟩
    ·exact ⟨m0,jk,_,rfl,by omega,by omega,a3,by omega,.meet l1 l2 (by simp) (by simp),le_trans (xc n3 l1) (by rw [lbA];omega)⟩
   refine tL (λab=>ab=hf S c d n ws [some (.own [d0]),some (.val (.lst (h.map pairD))),x7,some (.val (letD l)),some (.val (.lst o)),bH,bD,bz,bp,bh]) (λK hK _=>?_) ?_
   ·have st:slF (.tup [.int m0,.lst (jk.map wishD),t0]) none (some 2)=some (.tup [.int m0,.lst (jk.map wishD)]):=zQ (n:=2) (by simp)
    rw [e0]
    simp
    rw [sR st]
    simp
    refine hK _ ?_
    rw [eo,e0]
    rfl
   rintro ab rfl
   clear a1 a2 a3 a4 a5 a6 e0
   refine tL (λab=>∃ (c am:List D) (x7:Option R),PotOk c/\(∀ y∈am,Thing n 27 8 1582156 8 (7+10 ^ 30+10 ^ 30) y)/\am.length<=100/\ab=hf S c d n ws [some (.own (d0::am)),some (.val (.lst (h.map pairD))),x7,some (.val (letD l)),some (.val (.lst o)),bH,bD,bz,bp,bh]) (λK hK _=>?_) ?_
   ·simp
    refine u4 (J:=λi Y=>∃ (c am:List D) (x7:Option R),PotOk c/\(∀ y,am.head?=some y->Thing n 13 7 790928 7 (7+10 ^ 30) y)/\(∀ y∈am,Thing n 27 8 1582156 8 (7+10 ^ 30+10 ^ 30) y)/\am.length=i/\Y=hf S c d n ws [some (.own (d0::am)),some (.val (.lst (h.map pairD))),x7,some (.val (letD l)),some (.val (.lst o)),bH,bD,bz,bp,bh]) ⟨c,[],x7,hc,by simp,by simp,rfl,rfl⟩ ?_ ?_
    ·rintro i d' Y hd ⟨c,am,x7,hc,hh,hr,li,rfl⟩
     have hi:i < 8:=(xU hd).2
     refine ⟨(),_,rfl,?_⟩
     show wp _ (hf S c d n ws [some (.own (d0::am)),some (.val (.lst (h.map pairD))),some (.val d'),some (.val (letD l)),some (.val (.lst o)),bH,bD,bz,bp,bh]) _
     simp [isMut,R.mut]
     refine tG hc (by omega) (by omega) λz c z1 z2 hc=>?_
     simp
     have ei:intBF [.bl (decide ((ws.length:Int) < 6))]=some (.int (if decide ((ws.length:Int) < 6) then 1 else 0)):=rfl
     rw [sR ei]
     obtain ⟨ix,em,i1,i2⟩:∃ ix,mulI (.int z) (.int (if decide ((ws.length:Int) < 6) then 1 else 0))=some (.int ix)/\0<=ix/\ix < min 2 ((am.length:Int)+1):=by
      by_cases l6:(ws.length:Int) < 6
      ·exact ⟨z,by simp [l6,mulI,intF],z1,by omega⟩
      ·exact ⟨0,by simp [l6,mulI,intF],by omega,by omega⟩
     rw [sR em]
     simp
     have jM:∀ (y:D) (c:List D),PotOk c->((am=[]->Thing n 13 7 790928 7 (7+10 ^ 30) y)/\Thing n 27 8 1582156 8 (7+10 ^ 30+10 ^ 30) y)->∃ c',PotOk c'/\∃ rs,(∀ y,rs.head?=some y->Thing n 13 7 790928 7 1000000000000000000000000000007 y)/\(∀ y∈rs,Thing n 27 8 1582156 8 2000000000000000000000000000007 y)/\rs.length=i+1/\∃ x7,hf S c d n ws [some (.own (d0::(am++[y]))),some (.val (.lst (h.map pairD))),some (.val d'),some (.val (letD l)),some (.val (.lst o)),bH,bD,bz,bp,bh]=hf S c' d n ws [some (.own (d0::rs)),some (.val (.lst (h.map pairD))),x7,some (.val (letD l)),some (.val (.lst o)),bH,bD,bz,bp,bh]:=λy c hc hy=>by
      refine ⟨c,hc,am++[y],λw hw=>?_,λw hw=>?_,by rw [length_append,li];rfl,_,rfl⟩
      ·cases am with
       | nil =>
        simp at hw
        rw [← hw]
        exact hy.1 rfl
       | cons q rs=>exact hh w hw
      ·rcases mem_append.mp hw with z | z
       ·exact hr w z
       ·rw [mem_singleton.mp z];exact hy.2
     have:ix=0\/ix=1:=by omega
     rcases this with rfl | rfl
     ·simp
      refine Cj ak ne n1 n3 (by omega) (by omega) (by omega) (by omega) hc jh λy c hy hc=>?_
      simp
      exact ⟨by omega,jM y c hc ⟨λ_=>hy,hy.mono (by omega) (by omega) (by omega) (by omega) (by omega)⟩⟩
     ·cases am with
      | nil =>
       have:(([]:List D).length:Int)=0:=rfl
       omega
      | cons q rs =>
       simp
       refine Cj ak ne n1 n3 (by omega) (by omega) (by omega) (by omega) hc (hh q rfl) λy c hy hc=>?_
       simp
       exact ⟨by simp at li;omega,jM y c hc ⟨λz=>(by cases z),hy⟩⟩
    ·rintro Y ⟨c,am,x7,hc,hh,hr,li,rfl⟩
     rw [wZ] at li
     exact hK _ ⟨c,am,x7,hc,hr,by omega,rfl⟩
   rintro ab ⟨c,am,x7,hc,hr,lr,rfl⟩
   have all:∀ y∈d0::am++o,Thing n 27 8 1582156 8 (7+10 ^ 30+10 ^ 30) y:=λy hy=>by
    rcases mem_append.mp hy with z | z
    ·rcases mem_cons.mp z with z | z
     ·rw [z]
      exact jh.mono (by omega) (by omega) (by omega) (by omega) (by omega)
     ·exact hr y z
    ·exact rh y z
   have lo:o.length<=100:=by rw [eo];simp
   simp
   refine ⟨by omega,?_⟩
   refine u4 (J:=λi Y=>∃ x5 x6 x7 x8 x9 bH bD bz bp bh,Y=hf S c d n ws [x5,x6,x7,x8,x9,bH,bD,bz,bp,bh]) ⟨_,_,_,_,_,_,_,_,_,_,rfl⟩ ?_ ?_
   ·rintro i y Y hy ⟨x5,x6,x7,x8,x9,bH,bD,bz,bp,bh,rfl⟩
    have ty:=all y (mem_of_getElem? hy)
    obtain ⟨z,ez⟩:=Ix n3 (by omega) (by omega) (by omega) (by omega) ty
    obtain ⟨b,e1,e2⟩:=F4 ak n1 n3 a (by omega) lT (by omega) (by omega) (by omega) (by omega) ty
    obtain ⟨zb,eb⟩:∃ zb,reprG [.bl b]=some (.str zb):=⟨_,Bw (d:=.bl b) (by rw [smD];trivial) (by simp [dep]) (by rw [lbD];omega)⟩
    refine ⟨(),_,rfl,?_⟩
    show wp _ (hf S c d n ws [x5,x6,x7,x8,x9,some (.val y),bD,bz,bp,bh]) _
    refine tL (λab=>ab=hf S c d n ws [x5,x6,x7,x8,x9,some (.val y),some (.val (.str z)),bz,bp,bh]) (λK hK _=>?_) ?_
    ·simp
     rw [sR ez]
     exact ⟨by simp,hK _ rfl⟩
    rintro ab rfl
    refine tL (λab=>ab=hf S c d n ws [x5,x6,x7,x8,x9,some (.val y),some (.val (.str z)),some (.val (.bl b)),bp,bh]) (λK hK _=>?_) ?_
    ·simp
     rw [sR e2]
     exact ⟨by simp,hK _ rfl⟩
    rintro ab rfl
    refine tL (λab=>ab=hf S c d n ws [x5,x6,x7,x8,x9,some (.val y),some (.val (.str z)),some (.val (.bl b)),some (.val (.lst (ws.map wishD))),bh]) (λK hK _=>?_) ?_
    ·simp
     exact hK _ rfl
    rintro ab rfl
    refine tL (λab=>ab=hf S c d n ws [x5,x6,x7,x8,x9,some (.val y),some (.val (.str z)),some (.val (.bl b)),some (.val (.lst (ws.map wishD))),some (.val (.bl b))]) (λK hK _=>?_) ?_
    ·simp
     rw [sR e1]
     exact ⟨by simp,hK _ rfl⟩
    rintro ab rfl
    simp
    rw [sR eb]
    simp
    rw [sR eb]
    simp [dep]
    rw [sR ez]
    simp [dep,DL.wG]
    exact ⟨le_trans (vI ws) (by decide),_,_,_,_,_,_,_,_,_,_,rfl⟩
   ·rintro Y ⟨x5,x6,x7,x8,x9,bH,bD,bz,bp,bh,rfl⟩
    exact ⟨c,hc,_,_,_,_,_,_,_,_,_,_,_,_,_,rfl⟩
  ·rintro Y ⟨c,x2,x3,x4,x5,x6,x7,x8,x9,bH,bD,bz,bp,bh,hc,rfl⟩
   refine hK _ ?_
   simp
   have w1:∀ w∈[[((0:Int),(1:Int))]],Wf 1 w:=λw hw=>by
    rw [mem_singleton.mp hw]
    exact ⟨rfl,λp hp=>by rw [mem_singleton.mp hp];exact ⟨by omega,by simp,by simp⟩⟩
   have tr:TreeD 1 1 1 (.tup [.str "left", letD [0]]):=.left rfl (by simp)
   have la:=vZ (n:=1) (l:=[0]) (by omega) rfl
   obtain ⟨bt,e1,_⟩:=Cc w1 (by omega) (by simp) (by omega) tr 20 [] ((0:Int) - 1) (by omega) (by simp) (by simp)
   have is:=CZ (sm:=[]) (m:=0) w1 (by omega) (by omega) (IsRoof.one _) (by simp) (by simp) (by simp) (by simp) tr (by omega) (by omega) e1
   have nb:inB1 [] [((0:Int),(1:Int))]=false:=by decide
   rw [show ([[((0:Int),(1:Int))]].all (inB1 []))=false by simp [nb]] at is
   simp at is
   have is:cvF ve [.lst [.tup [.tup [.int 0,.int 1]]],.tup [.int 0,.lst [],.tup [.str "left", .tup [.int 0]]]]=some (.bl false):=is
   rw [sR is]
   exact ⟨_,_,rfl,hE _ _ ⟨_,rfl,rfl⟩⟩
 obtain ⟨r,aY,e,rfl⟩:=aQ
 exact ⟨aY,e⟩
end Own
namespace PySem.W.Fast
theorem tw541632414493565745:True:=⟨⟩
theorem tw3290160382517822483:True:=⟨⟩
theorem tw9222908848970185941:True:=⟨⟩
theorem tw4300930539933204718:True:=⟨⟩
theorem tw17854290252270737040:True:=⟨⟩
theorem tw16636578920572653720:True:=⟨⟩
theorem tw13131615560844879243:True:=⟨⟩
theorem tw10140373648056381374:True:=⟨⟩
theorem tw11265060802503576229:True:=⟨⟩
theorem tw11937419721792507376:True:=⟨⟩
theorem tw5636191188750324492:True:=⟨⟩
theorem tw3086318683006431268:True:=⟨⟩
theorem tw5008323457011330218:True:=⟨⟩
theorem tw3337508167588848508:True:=⟨⟩
theorem tw8439959641350397477:True:=⟨⟩
theorem tw13799367226092580935:True:=⟨⟩
theorem tw12278170316804547221:True:=⟨⟩
theorem tw14842185787073262533:True:=⟨⟩
theorem tw2977862547424733700:True:=⟨⟩
theorem tw18289159155891677342:True:=⟨⟩
theorem tw12373522679754670446:True:=⟨⟩
theorem tw5519317344779508150:True:=⟨⟩
theorem tw16559985012230703181:True:=⟨⟩
theorem tw15736749883448846226:True:=⟨⟩
theorem tw15834024025128987123:True:=⟨⟩
theorem tw11979200545555759175:True:=⟨⟩
theorem tw6743997918241378943:True:=⟨⟩
theorem tw3648441470871675451:True:=⟨⟩
theorem tw10319053315729028191:True:=⟨⟩
theorem tw13441254483322210219:True:=⟨⟩
theorem tw9152494254548078066:True:=⟨⟩
theorem tw4852195304747804919:True:=⟨⟩
theorem tw18181830427269051943:True:=⟨⟩
theorem tw17661072320328239918:True:=⟨⟩
theorem tw5402014240113063653:True:=⟨⟩
theorem tw16813645074145525332:True:=⟨⟩
theorem tw1284974150431413339:True:=⟨⟩
theorem tw510775927244386841:True:=⟨⟩
theorem tw12775261611444074125:True:=⟨⟩
theorem tw8632650686612435059:True:=⟨⟩
theorem tw11975774330608020355:True:=⟨⟩
theorem tw10154756240264064764:True:=⟨⟩
theorem tw18152041970499742920:True:=⟨⟩
theorem tw7023124894945852514:True:=⟨⟩
theorem tw6808817429570191391:True:=⟨⟩
theorem tw9548674022519033685:True:=⟨⟩
theorem tw5408953671519798195:True:=⟨⟩
theorem tw6499363876487336014:True:=⟨⟩
theorem tw16188677414724852287:True:=⟨⟩
theorem tw351901386483853562:True:=⟨⟩
theorem tw14716905191618003009:True:=⟨⟩
theorem tw17055231483104608484:True:=⟨⟩
theorem tw666350471953908753:True:=⟨⟩
theorem tw12963542834149367054:True:=⟨⟩
theorem tw10702827029424597241:True:=⟨⟩
theorem tw9743931350123720349:True:=⟨⟩
theorem tw7585303852805584076:True:=⟨⟩
theorem tw3891468075131392263:True:=⟨⟩
theorem tw16372528966534685877:True:=⟨⟩
theorem tw5238313500686977969:True:=⟨⟩
theorem tw13608666455318067416:True:=⟨⟩
theorem tw14814941598800345125:True:=⟨⟩
theorem tw3235349036105278457:True:=⟨⟩
theorem tw9130872790699814150:True:=⟨⟩
theorem tw2588461678911684988:True:=⟨⟩
theorem tw7299481813528089566:True:=⟨⟩
theorem tw3237717487507758585:True:=⟨⟩
theorem tw806428184441261358:True:=⟨⟩
theorem tw17006816387561850573:True:=⟨⟩
theorem tw4800235464108626532:True:=⟨⟩
theorem tw16209669356474890652:True:=⟨⟩
theorem tw6030757949020930622:True:=⟨⟩
theorem tw5256310456310177021:True:=⟨⟩
theorem tw2307703171932067453:True:=⟨⟩
theorem tw9903625200051699375:True:=⟨⟩
theorem tw13688500737998742135:True:=⟨⟩
theorem tw16072542564367076178:True:=⟨⟩
theorem tw2386430613482110321:True:=⟨⟩
theorem tw17911283688640369537:True:=⟨⟩
theorem tw6525556788443158105:True:=⟨⟩
theorem tw9575442741330689267:True:=⟨⟩
theorem tw12036167944728641634:True:=⟨⟩
theorem tw16715848471867762981:True:=⟨⟩
theorem tw8273373892243637735:True:=⟨⟩
theorem tw9716115674555569629:True:=⟨⟩
theorem tw880387664856049847:True:=⟨⟩
theorem tw691060183323293897:True:=⟨⟩
theorem tw13006494479130599587:True:=⟨⟩
theorem tw15460191746062493705:True:=⟨⟩
theorem tw7478827940478149205:True:=⟨⟩
theorem tw740570405225039495:True:=⟨⟩
theorem tw10893432576491156596:True:=⟨⟩
theorem tw10248268686301156870:True:=⟨⟩
end PySem.W.Fast
open PySem PySem.W PyProof.Rows
set_option maxRecDepth 100000 in
set_option maxHeartbeats 0 in
theorem PySem.Challenge.cw_roofpost_k15_the_fewest_looked_at_holds : PySem.Challenge.rw_roofpost_k15_the_fewest_looked_at.Holds := by
 w_on;(refine holds_law (by decide +kernel) λrE=>?_);k_head;(case hw=>w_witness2)
 k_fill
 refine Own.walk (l:=PySem.Challenge.rw_roofpost_k15_the_fewest_looked_at) Own.law_true rfl rfl ?W ?NT (λw h sD=>PySem.W.km_in_of sD) ?F
 (case W=>exact Option.isSome_iff_exists.mp (by kernel_rfl))
 (case NT=>intro p;kernel_rfl)
 case F =>
  intro w mg fa h KX G gm
  refine' Own.all_mk gm (Own.dn KX G ?_ ?_ ?_ ?_) (Own.dn KX G ?_ ?_ ?_ ?_) (Own.dn KX G ?_ ?_ ?_ ?_) (Own.dn KX G ?_ ?_ ?_ ?_) (Own.dn KX G ?_ ?_ ?_ ?_) (Own.dn KX G ?_ ?_ ?_ ?_) (Own.dn KX G ?_ ?_ ?_ ?_) (Own.dn KX G ?_ ?_ ?_ ?_) (Own.dn KX G ?_ ?_ ?_ ?_) (Own.dn KX G ?_ ?_ ?_ ?_) (Own.dn KX G ?_ ?_ ?_ ?_) (Own.dn KX G ?_ ?_ ?_ ?_) (Own.dn KX G ?_ ?_ ?_ ?_) (Own.dn KX G ?_ ?_ ?_ ?_) (Own.dn KX G ?_ ?_ ?_ ?_) (Own.dn KX G ?_ ?_ ?_ ?_) (Own.dn KX G ?_ ?_ ?_ ?_) (Own.dn KX G ?_ ?_ ?_ ?_) (Own.dn KX G ?_ ?_ ?_ ?_) (Own.dn KX G ?_ ?_ ?_ ?_) (Own.dn KX G ?_ ?_ ?_ ?_) (Own.dn KX G ?_ ?_ ?_ ?_) (Own.dn KX G ?_ ?_ ?_ ?_) (Own.dn KX G ?_ ?_ ?_ ?_) (Own.dn KX G ?_ ?_ ?_ ?_) (Own.dn KX G ?_ ?_ ?_ ?_) (Own.dn KX G ?_ ?_ ?_ ?_) (Own.dn KX G ?_ ?_ ?_ ?_) (Own.dn KX G ?_ ?_ ?_ ?_) (Own.dn KX G ?_ ?_ ?_ ?_) (Own.dn KX G ?_ ?_ ?_ ?_) (Own.dn KX G ?_ ?_ ?_ ?_) (Own.dn KX G ?_ ?_ ?_ ?_) (Own.dn KX G ?_ ?_ ?_ ?_) (mg_none_of KX G ?_) (mg_none_of KX G ?_) (mg_none_of KX G ?_) (mg_none_of KX G ?_) (mg_none_of KX G ?_) (mg_none_of KX G ?_) (mg_none_of KX G ?_) (mg_none_of KX G ?_) (mg_none_of KX G ?_) (mg_none_of KX G ?_) (mg_none_of KX G ?_) (mg_none_of KX G ?_) (mg_none_of KX G ?_) (mg_none_of KX G ?_) ?T0
  (case T0=>kernel_rfl)
  any_goals k_is
