import PyProof.Rows.All
import Wide.All
import OpenK.AllK
import Wide.FinOn
import Lean
import PyProof.EqAt
import PyProof.EqKinds
import PyProof.TupleCall
import PyProof.NeKinds
import PyProof.IsiSeqPairs
import PyProof.IsiNone
import KE.KSortTup
import KE.KRevSl
import KE.KIntText
import PySem.Challenge.RW_roofpost_k73_whole_written_and_read
set_option Elab.async false
set_option linter.all false
open Array (forIn_toList getD getD_eq_getD_getElem? getElem?_eq_none length_toList mem_iff_getElem? size_extract toList)
open Array.Perm (trans)
open Bool (and_eq_true false_eq_true not_eq_true')
open Classical (byContradiction)
open False (elim)
open ForInStep (yield)
open Function (comp_def)
open Int (emod_lt_of_pos emod_nonneg toNat_natCast)
open List (all_cons all_eq_true all_map any_cons any_eq_true append_nil drop_eq_getElem_cons drop_of_length_le drop_succ_cons filter filterMap_cons filter_cons_of_neg filter_cons_of_pos foldl_cons forIn_cons forIn_nil getD_eq_getElem?_getD getElem?_append_left getElem?_drop getElem?_eq_getElem getElem?_map getElem?_set_ne getElem_map getElem_mem length length_append length_cons length_drop length_eq_zero_iff length_map length_range length_replicate length_set length_take map map_congr_left map_cons map_map map_take mem_append mem_append_left mem_append_right mem_cons mem_cons_of_mem mem_cons_self mem_filter mem_filterMap mem_flatMap mem_map mem_of_getElem? mem_of_mem_drop mem_of_mem_take mem_range mem_singleton mergeSort_perm nodup_append nodup_cons nodup_nil of_mem_zip pairwise_cons range replicate set_set size_toArray take_succ take_zero)
open List.Pairwise (imp_of_mem of_map)
open List.Perm (swap)
open Nat (le_of_lt le_refl le_succ le_trans lt_irrefl lt_of_lt_of_le lt_or_ge lt_succ_of_lt lt_succ_self lt_trichotomy mod_lt ne_of_gt ne_of_lt succ_pos zero_add zero_le)
open Option (getD_none map_eq_some_iff map_some)
open PUnit (unit)
open PyProof.Rows (boot_max split_pos)
open PySem.Around (under_plainId)
open PySem.Builtin.Frozenset (newClass slot0 updateFrom)
open PySem.Builtin.List (listExtendWith listFitsIndex listLengthHint)
open PySem.Builtin.Range (rangeSize)
open PySem.Builtin.Slice (sliceAdjust sliceApplied slicePlaces)
open PySem.Builtin.SmallTypes (nextOf stopIteration)
open PySem.Builtin.Str (occurrences)
open PySem.Builtin.Tuple (tupleExact tupleHashOf tupleItemsOf)
open PySem.F (args_tuple_add_2 called_set entry_tuple_add excBase_ValueError slot_tuple_add)
open PySem.Heap (get?_push_of_some get?_push_size get?_update_other get?_update_self lt_size size_push)
open PySem.IsiPair (bool_bool bool_int bool_list bool_str int_bool int_list int_str int_tuple str_bool str_int str_list str_str str_tuple)
open PySem.NumText (digitsVal foldl_ge)
open PySem.Obj (data_mapFields mapFields mapSeq putSet)
open PySem.PassesOwn (never)
open PySem.SeqAt (ne_of_list_tuple)
open PySem.Str (ofString)
open PySem.StrLaws (glued_eq_join joinFits join_split sumLen_le)
open PySem.Txt (join)
open PySem.Value (type)
open PySem.W (codeIn findIn fnOf instObj isFn methodObj nsIn specialIn)
open Sum (inl inr)
set_option maxRecDepth 100000
noncomputable section
namespace L2
open PySem PySem.Spec PyProof.Rows
abbrev Key:=Sum Int Str
noncomputable def keyIs:Key->Value->Bool
 | .inl k,v=>Value.isInt k v
 | .inr x,v=>Value.isStrOf x v
noncomputable def keyH (w:World):Key->Int
 | .inl k=>hashInt k
 | .inr x=>hashStr w x
theorem rG:∀ {k:Key}{v:Value},keyIs k v=true->(∃ i t,k=inl i/\v=Value.int i t)\/(∃ x t,k=inr x/\v=Value.str x t)
 | .inl i,v,h=>by
  obtain ⟨t,e⟩:=Value.isInt_shape (k:=i) (v:=v) h
  exact .inl ⟨i,t,rfl,e⟩
 | .inr x,v,h=>by
  obtain ⟨t,e⟩:=Value.isStrOf_shape (x:=x) (v:=v) h
  exact .inr ⟨x,t,rfl,e⟩
theorem CZ (a b:Int):decide ((inl a:Key)=inl b)=(a == b):=by
 by_cases e:a=b
 ·subst e;simp
 ·have h:¬ (inl a:Key)=inl b:=λq=>e (inl.inj q)
  rw [decide_eq_false h]
  exact (beq_eq_false_iff_ne.mpr e).symm
theorem Jj (a b:Str):decide ((inr a:Key)=inr b)=decide (a=b):=by
 by_cases e:a=b
 ·subst e;simp
 ·have h:¬ (inr a:Key)=inr b:=λq=>e (inr.inj q)
  rw [decide_eq_false h,decide_eq_false e]
theorem Gx (a:Int) (b:Str):decide ((inl a:Key)=inr b)=false:=decide_eq_false (λq=>nomatch q)
theorem Jy (a:Str) (b:Int):decide ((inr a:Key)=inl b)=false:=decide_eq_false (λq=>nomatch q)
noncomputable def mixKind (prog:Program) (w:World):PySem.KeyKind prog w Key where
 is:=keyIs
 hash:=keyH w
 inj:=λv a b ha hb=>by
  rcases rG ha with ⟨i,t,rfl,rfl⟩ | ⟨x,t,rfl,rfl⟩
  ·rcases rG hb with ⟨j,u,rfl,e⟩ | ⟨y,u,rfl,e⟩
   ·injection e with e1 _;rw [e1]
   ·exact nomatch e
  ·rcases rG hb with ⟨j,u,rfl,e⟩ | ⟨y,u,rfl,e⟩
   ·exact nomatch e
   ·injection e with e1 _;rw [e1]
 byValue:=λk v h=>by
  rcases rG h with ⟨i,t,rfl,rfl⟩ | ⟨x,t,rfl,rfl⟩<;>rfl
 pyHash:=λhv h=>by
  rcases rG hv with ⟨i,t,rfl,rfl⟩ | ⟨x,t,rfl,rfl⟩
  ·exact wpAny_pyHash_int h
  ·exact wpAny_pyHash_str h
 eqBool:=λhu hv h=>by
  rcases rG hu with ⟨i,t,rfl,rfl⟩ | ⟨x,t,rfl,rfl⟩
  ·rcases rG hv with ⟨j,u,rfl,rfl⟩ | ⟨y,u,rfl,rfl⟩
   ·rw [CZ] at h;exact wpAny_eqBool_int h
   ·rw [Gx] at h;exact SeqAt.EqAt.int_str i t y u _ _ _ _ h
  ·rcases rG hv with ⟨j,u,rfl,rfl⟩ | ⟨y,u,rfl,rfl⟩
   ·rw [Jy] at h;exact SeqAt.EqAt.str_int x t j u _ _ _ _ h
   ·rw [Jj] at h;exact wpAny_eqBool_str h
 «strs»:=λk x t v h=>by
  rcases rG h with ⟨i,u,rfl,e⟩ | ⟨y,u,rfl,e⟩
  ·exact nomatch e
  ·injection e with e1 _
   subst e1
   cases v<;>rfl
inductive V where
 | non | bl (b:Bool) | int (i:Int) | str (x:Str) | byt (b:Array UInt8) | flt (b:UInt64) | ref (a:Addr) | ty (n:String)
 deriving DecidableEq
def RelV:V->Value->Prop
 | .non,u=>u=Value.none
 | .bl b,u=>u=Value.bool b
 | .int i,u=>∃ t,u=Value.int i t
 | .str x,u=>∃ t,u=Value.str x t
 | .byt b,u=>∃ t,u=Value.bytes b t
 | .flt b,u=>∃ t,u=Value.float b t
 | .ref a,u=>u=Value.ref a
 | .ty n,u=>u=type n
abbrev Vals:List V->List Value->Prop:=Paired RelV
theorem Vals.length {xs:List V}{us:List Value} (r:Vals xs us):xs.length=us.length:=Paired.length r
theorem Vals.get:∀ {xs:List V}{us:List Value}{i:Nat}{x:V},Vals xs us->xs[i]?=some x->∃ u,us[i]?=some u/\RelV x u
 | _,_,_,_,.nil,e=>by simp at e
 | _,_,0,_,.cons r _,e=>by simp at e;subst e;exact ⟨_,rfl,r⟩
 | _,_,i+1,x,.cons _ t,e=>by
  obtain ⟨u,h1,h2⟩:=Vals.get (i:=i) (x:=x) t (by simpa using e)
  exact ⟨u,by simpa using h1,h2⟩
theorem Vals.set {x:V}{u:Value} (r:RelV x u):∀ {xs:List V}{us:List Value} (i:Nat),Vals xs us->Vals (xs.set i x) (us.set i u)
 | _,_,_,.nil=>.nil
 | _,_,0,.cons _ t=>.cons r t
 | _,_,i+1,.cons q t=>.cons q (Vals.set r i t)
theorem Vals.append:∀ {xs ys:List V}{us ws:List Value},Vals xs us->Vals ys ws->Vals (xs++ys) (us++ws)
 | _,_,_,_,.nil,s=>s
 | _,_,_,_,.cons r t,s=>.cons r (Vals.append t s)
theorem Vals.take:∀ {xs:List V}{us:List Value} (n:Nat),Vals xs us->Vals (xs.take n) (us.take n)
 | _,_,0,_=>.nil
 | _,_,_+1,.nil=>.nil
 | _,_,n+1,.cons r t=>.cons r (Vals.take n t)
theorem Vals.drop:∀ {xs:List V}{us:List Value} (n:Nat),Vals xs us->Vals (xs.drop n) (us.drop n)
 | _,_,0,r=>r
 | _,_,_+1,.nil=>.nil
 | _,_,n+1,.cons _ t=>Vals.drop n t
def RelO:Option V->Option Value->Prop
 | some v,some u=>RelV v u
 | none,none=>True
 | _,_=>False
def KV {κ:Type}:List (κ×V)->List (κ×Value)->Prop:=Paired λ(p:κ×V) (q:κ×Value)=>p.1=q.1/\RelV p.2 q.2
noncomputable def kV:Key->V
 | .inl i=>.int i
 | .inr x=>.str x
inductive HO where
 | lst (xs:List V)
 | tup (xs:List V)
 | dK (aP:List (Key×V)) | dT (aP:List (List Key×V))
 | set (S:Int->Bool) (n:Nat)
 | ins (C dx:Addr) (fs:List (Str×V))
 | own (x:Addr)
 | xd (fs:List (Str×V))
 | met (f x:Addr)
 | rng (lo hi:Int)
 | frz (o:Obj) (u:HO)
 | tbl (ps:Array Value)
 | ext (φ:Heap->Prop)
abbrev Hp:=Addr->Option HO
noncomputable def upd (H:Hp) (a:Addr) (o:HO):Hp:=λb=>if b=a then some o else H b
theorem qj {H:Hp}{a:Addr}{o:HO}:upd H a o a=some o:=by unfold upd;rw [if_pos rfl]
theorem pV {H:Hp}{a b:Addr}{o:HO} (h:b≠a):upd H a o b=H b:=by unfold upd;rw [if_neg h]
theorem rh {H:Hp}{a b:Addr}{o:HO} (h:H a=some o) (h':H b=none):a≠b:=by
 intro e;subst e;rw [h] at h';cases h'
section
variable (P:Program) (w:World)
def ObjOk (H:Hp) (h:Heap) (a:Addr):HO->Prop
 | .lst xs=>xs.length<=sizeLine/\∃ (ac:List Value) (n:Nat),Vals xs ac/\h.get? a=some { cls:=.type "list", data:=.seq ac.toArray n }
 | .tup xs=>xs.length<=sizeLine/\∃ ac:List Value,Vals xs ac/\IsTup h a ac.toArray
 | .dK aP=>aP.length<=sizeLine/\(a == sysModules)=false/\∃ vs,KV aP vs/\h.DictOf (mixKind P w) a vs
 | .dT aP=>aP.length<=sizeLine/\(a == sysModules)=false/\∃ xs:List (List Key×Addr×Value),
   Paired (λ(p:List Key×V) (q:List Key×Addr×Value)=>p.1=q.1/\H q.2.1=some (.tup (p.1.map kV))/\RelV p.2 q.2.2) aP xs ∧
   ∃ o es ep,h.get? a=some o/\o.ExactDict/\o.data=.dict es ep/\es.toList=xs.map (entryOfKey (tupleKind (mixKind P w)))/\(xs.map (·.1)).Nodup
 | .set S n=>h.SetOf (intKind P w) a S n
 | .ins C dx fs=>H dx=some (.own a)/\fs.length<=1000/\dx≠a/\h.get? a=some (instObj C dx) ∧
   ∃ mA,h.Ns1 dx mA/\(∀ f,RelO (fs.lookup f) (mA f))/\PySem.Within mA (fs.map (·.1))
 | .own _=>∃ o,h.get? a=some o
 | .xd fs=>∃ mA,h.Ns1 a mA/\∀ f,RelO (fs.lookup f) (mA f)
 | .rng lo hi=>∃ t u v,h.get? a=some { cls:=.type "range", data:=.fields #[.int lo t,.int hi u,.int 1 v] }
 | .frz o u=>h.get? a=some o/\ObjOk H h a u
 | .tbl ps=>h.get? a=some { cls:=.none,data:=.fields ps }
 | .met f x=>h.get? a=some (methodObj (.ref f) (.ref x))
 | .ext φ=>φ h/\(∃ o,h.get? a=some o)/\∀ h1 h2:Heap,φ h1->(∀ o,h1.get? a=some o->h2.get? a=some o)->φ h2
def HOk (H:Hp) (h:Heap):Prop:=∀ a o,H a=some o->ObjOk P w H h a o
end
section
variable {P:Program}{w:World}{H H':Hp}{h h':Heap}{a:Addr}{o:HO}
theorem ObjOk.lt (x:ObjOk P w H h a o):a < h.objs.size:=by
 cases o with
 | lst xs=>obtain ⟨_,_,_,_,e⟩:=x;exact lt_size e
 | tup xs=>obtain ⟨_,_,_,p⟩:=x;exact p.lt
 | dK aP=>obtain ⟨_,_,_,_,o,_,_,e,_⟩:=x;exact lt_size e
 | dT aP=>obtain ⟨_,_,_,_,o,_,_,e,_⟩:=x;exact lt_size e
 | set S n=>obtain ⟨o,_,_,_,e,_⟩:=x;exact lt_size e
 | ins C dx fs=>obtain ⟨_,_,_,e,_⟩:=x;exact lt_size e
 | own y=>obtain ⟨_,e⟩:=x;exact lt_size e
 | xd fs=>obtain ⟨_,⟨_,_,_,e,_⟩,_⟩:=x;exact lt_size e
 | rng lo hi=>obtain ⟨_,_,_,e⟩:=x;exact lt_size e
 | frz ob u=>obtain ⟨e,_⟩:=x;exact lt_size e
 | tbl ps=>exact lt_size (show h.get? a=some _ from x)
 | met f y=>exact lt_size (show h.get? a=some _ from x)
 | ext φ=>obtain ⟨_,⟨_,e⟩,_⟩:=x;exact lt_size e
theorem Paired.mapP {α β:Type}{F G:α->β->Prop}:∀ {l₁:List α}{l₂:List β},Paired F l₁ l₂->(∀ a b,F a b->G a b)->Paired G l₁ l₂
 | _,_,.nil,_=>.nil
 | _,_,.cons r t,f=>.cons (f _ _ r) (Paired.mapP t f)
theorem ObjOk.stay (x:ObjOk P w H h a o) (k:∀ b u,(b=a\/H b=some (.own a))->h.get? b=some u->h'.get? b=some u)
  (ho:∀ b,H b=some (.own a)->H' b=some (.own a)) (ht:∀ b xs,H b=some (.tup xs)->H' b=some (.tup xs)):ObjOk P w H' h' a o:=by
 induction o with
 | lst xs=>obtain ⟨z,ac,n,r,e⟩:=x;exact ⟨z,ac,n,r,k _ _ (.inl rfl) e⟩
 | tup xs=>obtain ⟨z,ac,r,ob,e,c⟩:=x;exact ⟨z,ac,r,ob,k _ _ (.inl rfl) e,c⟩
 | dK aP=>obtain ⟨z,y,vs,r,ob,es,ep,e,c⟩:=x;exact ⟨z,y,vs,r,ob,es,ep,k _ _ (.inl rfl) e,c⟩
 | dT aP =>
  obtain ⟨z,y,xs,r,ob,es,ep,e,c⟩:=x
  exact ⟨z,y,xs,Paired.mapP r λp q z=>⟨z.1,ht _ _ z.2.1,z.2.2⟩,ob,es,ep,k _ _ (.inl rfl) e,c⟩
 | set S n=>obtain ⟨ob,es,ep,t,e,c⟩:=x;exact ⟨ob,es,ep,t,k _ _ (.inl rfl) e,c⟩
 | ins C dx fs =>
  obtain ⟨d,z,ne,e,mA,⟨od,es,ep,e2,c⟩,r⟩:=x
  exact ⟨ho _ d,z,ne,k _ _ (.inl rfl) e,mA,⟨od,es,ep,k _ _ (.inr d) e2,c⟩,r⟩
 | own y=>obtain ⟨ob,e⟩:=x;exact ⟨ob,k _ _ (.inl rfl) e⟩
 | xd fs=>obtain ⟨mA,⟨od,es,ep,e,c⟩,r⟩:=x;exact ⟨mA,⟨od,es,ep,k _ _ (.inl rfl) e,c⟩,r⟩
 | rng lo hi=>obtain ⟨t,u,v,e⟩:=x;exact ⟨t,u,v,k _ _ (.inl rfl) e⟩
 | frz ob u ih=>obtain ⟨e,q⟩:=x;exact ⟨k _ _ (.inl rfl) e,ih q⟩
 | tbl ps =>
  have e:h.get? a=some { cls:=.none,data:=.fields ps }:=x
  show h'.get? a=some { cls:=.none,data:=.fields ps }
  exact k a _ (.inl rfl) e
 | met f y =>
  have e:h.get? a=some (methodObj (.ref f) (.ref y)):=x
  show h'.get? a=some (methodObj (.ref f) (.ref y))
  exact k a _ (.inl rfl) e
 | ext φ=>obtain ⟨p,⟨o,e⟩,st⟩:=x;exact ⟨st _ _ p λo q=>k _ _ (.inl rfl) q,⟨o,k _ _ (.inl rfl) e⟩,st⟩
theorem HOk.lt (x:HOk P w H h) (e:H a=some o):a < h.objs.size:=(x a o e).lt
theorem HOk.fresh (x:HOk P w H h) (e:h.objs.size<=a):H a=none:=by
 cases q:H a with
 | none=>rfl
 | some u=>exact absurd (lt_of_lt_of_le (x.lt q) e) (lt_irrefl _)
theorem HOk.kept (x:HOk P w H h) (k:∀ b u,h.get? b=some u->h'.get? b=some u):HOk P w H h':=λa o e =>
 (x a o e).stay (λb u _ q=>k b u q) (λ_ q=>q) λ_ _ q=>q
theorem HOk.laid (x:HOk P w H h) (k:∀ b u,h.get? b=some u->h'.get? b=some u) (hp:h.objs.size<=a) (new:ObjOk P w (upd H a o) h' a o):HOk P w (upd H a o) h':=λb u e=>by
 have hn:=x.fresh hp
 by_cases hb:b=a
 ·subst hb;rw [qj] at e;cases e;exact new
 ·rw [pV hb] at e
  exact (x b u e).stay (λc v _ q=>k c v q) (λc q=>by rw [pV (rh q hn)];exact q) λc xs q=>by rw [pV (rh q hn)];exact q
end
def Rd (H:Hp) (a:Addr) (u:HO):Prop:=H a=some u\/∃ o,H a=some (.frz o u)
theorem Rd.ok {P:Program}{w:World}{H:Hp}{h:Heap}{a:Addr}{u:HO} (r:Rd H a u) (x:HOk P w H h):ObjOk P w H h a u:=by
 rcases r with r | ⟨o,r⟩
 ·exact x a u r
 ·obtain ⟨_,q⟩:=x a _ r
  exact q
def Mut:Option HO->Prop
 | some (.lst _)=>True
 | some (.dK _)=>True
 | some (.dT _)=>True
 | some (.set _ _)=>True
 | some (.ins _ _ _)=>True
 | some (.ext _)=>True
 | _=>False
section
variable {P:Program}{w:World}{H:Hp}{h h':Heap}{x e:Addr}{o':HO}
theorem HOk.write (ok:HOk P w H h) (mu:Mut (H x)) (he:e=x\/H e=some (.own x)) (k:∀ b u,b≠e->h.get? b=some u->h'.get? b=some u) (eZ:∃ u,h'.get? e=some u)
  (new:ObjOk P w (upd H x o') h' x o'):HOk P w (upd H x o') h':=λb u q=>by
 have iz:∀ c y,H c=some (.own y)->c≠x:=λc y r z=>by subst z;rw [r] at mu;exact mu
 have j8:∀ c xs,H c=some (.tup xs)->c≠x:=λc xs r z=>by subst z;rw [r] at mu;exact mu
 by_cases hb:b=x
 ·subst hb;rw [qj] at q;cases q;exact new
 ·rw [pV hb] at q
  by_cases hbe:b=e
  ·have q':H b=some (.own x):=by
    rcases he with z | z
    ·exact absurd (hbe.trans z) hb
    ·rw [hbe];exact z
   rw [q] at q';cases q'
   obtain ⟨v,hv⟩:=eZ
   exact ⟨v,by rw [hbe];exact hv⟩
  ·refine (ok b u q).stay (λc v hc r=>k c v ?_ r) (λc r=>by rw [pV (iz c b r)];exact r) λc xs r=>by rw [pV (j8 c xs r)];exact r
   rcases hc with rfl | hc
   ·exact hbe
   ·rintro rfl
    rcases he with z | z
    ·exact iz c b hc z
    ·rw [hc] at z;cases z;exact hb rfl
end
structure Un (fs ex:List Addr) (H H':Hp) (h h':Heap):Prop where
 keep:∀ b o,h.get? b=some o->H b=none->b∉fs->b∉ex->h'.get? b=some o
 slot:∀ b o,h.get? b=some o->H b=none->b∈fs->b∉ex->∃ sl,h'.get? b=some { o with slots:=sl }
 free:∀ b o,h.get? b=some o->H b=none->b∉ex->H' b=none
 there:∀ b o,h.get? b=some o->b∉ex->∃ o',h'.get? b=some o'
 tups:∀ b xs,H b=some (.tup xs)->H' b=some (.tup xs)
 frzs:∀ b o u,H b=some (.frz o u)->H' b=some (.frz o u)
 tbls:∀ b ps,H b=some (.tbl ps)->∃ more,H' b=some (.tbl (ps++more))
section
variable {fs ml ex oU:List Addr}{H H1 H2:Hp}{h h1 h2 h':Heap}{a x e:Addr}{o:HO}
theorem Un.any (u:Un fs ex H H1 h h1){b:Addr}{ob:Obj} (q:h.get? b=some ob) (n:H b=none) (hx:b∉ex):∃ sl,h1.get? b=some { ob with slots:=sl }:=by
 by_cases hb:b∈fs
 ·exact u.slot b ob q n hb hx
 ·exact ⟨ob.slots,u.keep b ob q n hb hx⟩
theorem Un.kept (k:∀ b u,h.get? b=some u->h'.get? b=some u):Un fs ex H H h h' :=
 ⟨λb ob q _ _ _=>k b ob q,λb ob q _ _ _=>⟨ob.slots,k b ob q⟩,λ_ _ _ n _=>n,λb ob q _=>⟨ob,k b ob q⟩,λ_ _ q=>q,λ_ _ _ q=>q,λ_ ps q=>⟨#[],by rw [q];simp⟩⟩
theorem Un.refl:Un fs ex H H h h:=Un.kept λ_ _ q=>q
theorem Un.laid (k:∀ b u,h.get? b=some u->h'.get? b=some u) (hp:h.objs.size<=a) (hn:H a=none):Un fs ex H (upd H a o) h h' where
 keep:=λb u q _ _ _=>k b u q
 slot:=λb u q _ _ _=>⟨u.slots,k b u q⟩
 free:=λb u q n _=>by rw [pV (ne_of_lt (lt_of_lt_of_le (lt_size q) hp))];exact n
 there:=λb u q _=>⟨u,k b u q⟩
 tups:=λb xs q=>by rw [pV (rh q hn)];exact q
 frzs:=λb u xs q=>by rw [pV (rh q hn)];exact q
 tbls:=λb ps q=>⟨#[],by rw [pV (rh q hn),q];simp⟩
theorem Un.write (mu:Mut (H x)) (he:e=x\/H e=some (.own x)) (k:∀ b u,b≠e->h.get? b=some u->h'.get? b=some u) (eZ:∃ u,h'.get? e=some u):Un fs ex H (upd H x o) h h':=by
 have hx:∀ b,H b=none->b≠x:=λb n z=>by subst z;rw [n] at mu;exact mu
 have hb:∀ b,H b=none->b≠e:=λb n z=>by
  subst z
  rcases he with r | r
  ·exact hx b n r
  ·rw [n] at r;cases r
 have hm:∀ b u,H b=some u->¬ Mut (some u)->b≠x:=λb u q nm z=>by subst z;rw [q] at mu;exact nm mu
 refine ⟨λb u q n _ _=>k b u (hb b n) q,λb u q n _ _=>⟨u.slots,k b u (hb b n) q⟩,λb u q n _=>by rw [pV (hx b n)];exact n,λb u q _=>?_,
  λb xs q=>by rw [pV (hm b _ q λz=>z)];exact q,λb u xs q=>by rw [pV (hm b _ q λz=>z)];exact q,λb ps q=>⟨#[],by rw [pV (hm b _ q λz=>z),q];simp⟩⟩
 by_cases hbe:b=e
 ·subst hbe;exact eZ
 ·exact ⟨u,k b u hbe q⟩
end
noncomputable def trk (h:Heap) (H:Hp):List Addr:=(range h.objs.size).filter λa=>(H a).isSome
noncomputable def hidT (h:Heap) (H:Hp):Heap:=PySem.W.hideAll h (trk h H)
theorem Fw (h:Heap) (H:Hp):(hidT h H).objs.size=h.objs.size:=PySem.W.hideAll_size _ _
theorem HP {h:Heap}{H:Hp}{b:Addr}{o:Obj} (e:h.get? b=some o) (n:H b=none):(hidT h H).get? b=some o :=
 PySem.W.hideAll_get _ e λhm=>by
  have q:(H b).isSome=true:=(mem_filter.mp hm).2
  rw [n] at q;simp at q
theorem GG {h:Heap}{H:Hp}{b:Addr}{o:Obj} (e:(hidT h H).get? b=some o):h.get? b=some o/\H b=none:=by
 have e':h.get? b=some o:=PySem.W.of_hideAll (trk h H) e
 refine ⟨e',?_⟩
 cases q:H b with
 | none=>rfl
 | some x =>
  have hm:b∈trk h H:=mem_filter.mpr ⟨mem_range.mpr (lt_size e'),by simp [q]⟩
  have z:(hidT h H).get? b=none:=PySem.W.hideAll_none (trk h H) hm
  rw [z] at e;cases e
structure Mod (K:PySem.W.Frag) (mg:Str->Option Value) (base:Heap):Prop where
 kin:K.In base
 glob:base.Ns mainGlobals mg
 blt:∃ mb,base.Ns builtinsNs mb/\∀ x:Str,x ≠ "__name__"->mb x=bootBuiltins x
 nolimit:base.NoLimit
structure Cx where
 prog:Program
 w:World
 K:PySem.W.Frag
 mg:Str->Option Value
 base:Heap
 A:Around
 N:List Str
 s₀:Shared
 H₀:Hp
 env:Env
 outer:List Env
 stack:List Env
 ex:List Addr
 fn:Str->Bool
 calm:Bool
 pn:List (Addr×Obj)
 xe:Value->Shared->Prop
noncomputable def frs (l:List Env):List Addr:=l.filterMap (·.frame)
noncomputable abbrev Cx.fs (X:Cx):List Addr:=frs X.outer
def Vis (sc:Scope) (x:Str):Prop:=sc.names.lookup x=some .local\/sc.names.lookup x=some .cell\/sc.names.lookup x=some .free
def Loc (sc:Scope) (x:Str):Prop:=sc.names.lookup x=some .local\/sc.names.lookup x=some .cell
noncomputable def visB (s:Scope) (x:Str):Bool:=match s.names.lookup x with|some .local=>true|some .cell=>true|some .free=>true|_=>false
noncomputable def locB (s:Scope) (x:Str):Bool:=match s.names.lookup x with|some .local=>true|some .cell=>true|_=>false
noncomputable def fnB (X:Cx) (x:Str):Bool:=X.fn x||match X.env.scope.names.lookup x with|some .local=>true|_=>false
theorem visI {s:Scope}{x:Str} (h:visB s x=true):Vis s x:=by
 unfold visB at h;unfold Vis;split at h<;>simp_all
theorem locI {s:Scope}{x:Str} (h:locB s x=true):Loc s x:=by
 unfold locB at h;unfold Loc;split at h<;>simp_all
theorem fnI {X:Cx}{x:Str} (h:fnB X x=true):X.fn x=true\/X.env.scope.names.lookup x=some .local:=by
 unfold fnB at h
 cases e:X.fn x with
 | true=>exact .inl rfl
 | false=>rw [e,Bool.false_or] at h;split at h<;>simp_all
def Look (env:Env) (h:Heap) (m:Str->Option Value) (x:Str) (u:Value):Prop :=
 (env.kindOf x=some .local/\m x=some u)\/((env.kindOf x=some .cell\/env.kindOf x=some .free)/\∃ c,env.cells.lookup x=some c/\h.IsCell c (some u))
structure Cx.Ok (X:Cx):Prop where
 mod:Mod X.K X.mg X.base
 kind:X.env.scope.kind=.function
 glob:X.env.globals=mainGlobals
 blt:X.env.builtins=builtinsNs
 above:X.s₀.heap.objs.size<=X.env.locals
 inj:∀ x y c,X.env.cells.lookup x=some c->X.env.cells.lookup y=some c->x=y
 has:∀ x,(X.env.kindOf x=some .cell\/X.env.kindOf x=some .free)->∃ c,X.env.cells.lookup x=some c
 cab:∀ x c,X.fn x=true->X.env.cells.lookup x=some c->X.s₀.heap.objs.size<=c
 hd:X.calm=true->X.A.handled=none
 frames:X.A.frames=some X.stack
 stk:X.stack=X.outer\/(X.stack=X.env::X.outer/\X.env.frame=some X.env.locals)
 exf:∀ b∈X.ex,b≠X.env.locals/\∀ x c,X.env.cells.lookup x=some c->c≠b
 bs:∀ b o,X.base.get? b=some o->X.s₀.heap.get? b=some o/\X.H₀ b=none
 bsz:X.base.objs.size<=X.s₀.heap.objs.size
 noex:∀ b o,X.base.get? b=some o->b∉X.ex
 exfs:∀ b∈X.ex,b∉X.fs
 funs:X.s₀.heap.FunFrames X.base X.outer
 frf:∀ b∈X.fs,X.H₀ b=none
structure Inv (X:Cx) (U:List (Addr×Obj)) (Y:List (Option V)) (H:Hp) (s:Shared):Prop where
 ok:X.Ok
 os:s.os=X.s₀.os
 bare:AllBare s.gens
 base:Un X.fs X.ex X.H₀ H X.s₀.heap s.heap
 loc:∃ m,s.heap.Ns X.env.locals m/\∀ (i:Nat) (x:Str) (v:V),X.N[i]?=some x->Y[i]?=some (some v)->Vis X.env.scope x->∃ u,RelV v u/\Look X.env s.heap m x u
 cell:∀ x c,X.env.cells.lookup x=some c->∃ v,s.heap.IsCell c v
 free:H X.env.locals=none
 freeC:∀ x c,X.env.cells.lookup x=some c->H c=none
 pin:∀ p∈X.pn++U,s.heap.get? p.1=some p.2/\H p.1=none/\p.1≠X.env.locals/\p.1∉X.fs/\∀ v,p.2.data≠.cell v
 hok:HOk X.prog X.w H s.heap
 len:Y.length=X.N.length
section
variable {X:Cx}{U:List (Addr×Obj)}{Y:List (Option V)}{H H':Hp}{s:Shared}{h':Heap}
theorem Cx.Ok.nofr (ok:X.Ok){b:Addr}{o:Obj} (e:X.base.get? b=some o):b∉X.fs:=λhb=>by
 have:=(ok.funs.mem hb).1
 rw [e] at this;cases this
theorem Inv.bs (I:Inv X U Y H s):∀ b o,X.base.get? b=some o->s.heap.get? b=some o/\H b=none:=λb o e =>
 ⟨I.base.keep b o (I.ok.bs b o e).1 (I.ok.bs b o e).2 (I.ok.nofr e) (I.ok.noex b o e),I.base.free b o (I.ok.bs b o e).1 (I.ok.bs b o e).2 (I.ok.noex b o e)⟩
theorem Inv.bk (I:Inv X U Y H s):∀ b o,X.base.get? b=some o->s.heap.get? b=some o:=λb o e=>(I.bs b o e).1
theorem Inv.mod (I:Inv X U Y H s):Mod X.K X.mg X.base:=I.ok.mod
theorem Inv.kIn (I:Inv X U Y H s):X.K.In s.heap:=I.ok.mod.kin.keeps I.bk
theorem Inv.lt (I:Inv X U Y H s):X.env.locals < s.heap.objs.size:=let ⟨_,hn,_⟩:=I.loc;hn.lt
theorem Inv.sz (I:Inv X U Y H s):X.s₀.heap.objs.size<=s.heap.objs.size:=le_trans I.ok.above (le_of_lt I.lt)
theorem Inv.nofs (I:Inv X U Y H s){a:Addr} (h:s.heap.objs.size<=a):a∉X.fs:=λhb=>by
 obtain ⟨_,o,ho,_⟩:=I.ok.funs.mem hb
 exact absurd (lt_of_lt_of_le (lt_size ho) (le_trans I.sz h)) (lt_irrefl _)
theorem Inv.cne (I:Inv X U Y H s):∀ x c,X.env.cells.lookup x=some c->c≠X.env.locals:=λx c e z=>by
 obtain ⟨v,o,ho,hd⟩:=I.cell x c e
 obtain ⟨m,⟨o',es,ep,bN,cx,_⟩,_⟩:=I.loc
 rw [z,bN] at ho;cases ho;rw [cx] at hd;cases hd
theorem Inv.funs (I:Inv X U Y H s):s.heap.FunFrames X.base X.outer:=by
 have all:∀ (l:List Env),(∀ b∈frs l,b∈X.fs)->X.s₀.heap.FunFrames X.base l->s.heap.FunFrames X.base l:=by
  intro l
  induction l with
  | nil=>intro _ _;trivial
  | cons env r ih =>
   intro hs hl
   obtain ⟨hk,⟨L,o,hf,hn,ho,hd⟩,hr⟩:=hl
   have hL:L∈X.fs:=hs L (by unfold frs;rw [filterMap_cons,hf];exact mem_cons_self)
   obtain ⟨sl,e⟩:=I.base.slot L o ho (I.ok.frf L hL) hL λz=>I.ok.exfs L z hL
   exact ⟨hk,⟨L,_,hf,hn,e,hd⟩,ih (λb hb=>hs b (by unfold frs;rw [filterMap_cons,hf];exact mem_cons_of_mem _ hb)) hr⟩
 exact all X.outer (λ_ hb=>hb) I.ok.funs
theorem Inv.stack (I:Inv X U Y H s):s.heap.FunFrames X.base X.stack:=by
 rcases I.ok.stk with e | ⟨e,hf⟩
 ·rw [e];exact I.funs
 ·rw [e]
  obtain ⟨m,hn,_⟩:=I.loc
  refine .cons (by rw [I.ok.kind];decide) hf hn ?_ I.funs
  exact Heap.get?_none_of_le (le_trans I.ok.bsz I.ok.above)
theorem Inv.stkSub (I:Inv X U Y H s):∀ b∈frs X.stack,b∈X.env.locals::X.fs:=λb hb=>by
 rcases I.ok.stk with e | ⟨e,hf⟩
 ·rw [e] at hb;exact mem_cons_of_mem _ hb
 ·rw [e] at hb
  unfold frs at hb
  rw [filterMap_cons,hf] at hb
  exact hb
theorem Inv.stkFree (I:Inv X U Y H s):∀ b∈frs X.stack,H b=none:=λb hb=>by
 rcases mem_cons.mp (I.stkSub b hb) with e | hb
 ·rw [e];exact I.free
 ·obtain ⟨_,o,ho,_⟩:=I.ok.funs.mem hb
  exact I.base.free b o ho (I.ok.frf b hb) λz=>I.ok.exfs b z hb
theorem Inv.stepN {g':Array GenState}{t':Nat}{d':Drawn}{ch:List Addr} (I:Inv X U Y H s)
  (aV:∀ b∈ch,(b∈X.ex\/X.s₀.heap.get? b=none)/\b≠X.env.locals/\(∀ x c,X.env.cells.lookup x=some c->c≠b)/\∀ p∈X.pn++U,p.1≠b)
  (keep:∀ b o,b≠X.env.locals->b∉X.fs->b∉ch->s.heap.get? b=some o->H b=none->h'.get? b=some o)
  (slot:∀ b o,b≠X.env.locals->b∈X.fs->b∉ch->s.heap.get? b=some o->H b=none->∃ sl,h'.get? b=some { o with slots:=sl }) (free:∀ b o,b∉ch->s.heap.get? b=some o->H b=none->H' b=none)
  (there:∀ b o,b∉ch->s.heap.get? b=some o->∃ o',h'.get? b=some o')
  (tups:∀ b xs,H b=some (.tup xs)->H' b=some (.tup xs)) (frzs:∀ b o u,H b=some (.frz o u)->H' b=some (.frz o u)) (tbls:∀ b ps,H b=some (.tbl ps)->∃ more,H' b=some (.tbl (ps++more)))
  (ns:∀ m,s.heap.Ns X.env.locals m->h'.Ns X.env.locals m) (hok:HOk X.prog X.w H' h') (hg:AllBare g') :
  Inv X U Y H' { s with heap:=h',gens:=g',drawn:=d',toks:=t' }:=by
 have fc:∀ b o,X.s₀.heap.get? b=some o->b≠X.env.locals:=λb o e=>ne_of_lt (lt_of_lt_of_le (lt_size e) I.ok.above)
 have gF:∀ b o,X.s₀.heap.get? b=some o->b∉X.ex->b∉ch:=λb o e hx hb=>by
  rcases (aV b hb).1 with z | z
  ·exact hx z
  ·rw [z] at e;cases e
 have fz:∀ x c,X.env.cells.lookup x=some c->∀ v,s.heap.IsCell c v->h'.IsCell c v:=λx c e v ⟨o,ho,hd⟩=>by
  have ce:c∉ch:=λz=>(aV c z).2.2.1 x c e rfl
  by_cases hc:c∈X.fs
  ·obtain ⟨sl,q⟩:=slot c o (I.cne x c e) hc ce ho (I.freeC x c e)
   exact ⟨_,q,hd⟩
  ·exact ⟨o,keep c o (I.cne x c e) hc ce ho (I.freeC x c e),hd⟩
 refine ⟨I.ok,I.os,hg,⟨λb o e n hb hx=>?_,λb o e n hb hx=>?_,λb o e n hx=>?_,λb o e hx=>?_,λb xs e=>tups b xs (I.base.tups b xs e),λb o xs e=>frzs b o xs (I.base.frzs b o xs e),λb ps e=>?_⟩,?_,λx c e=>?_,?_,λx c e=>?_,λp hp=>?_,hok,I.len⟩
 ·exact keep b o (fc b o e) hb (gF b o e hx) (I.base.keep b o e n hb hx) (I.base.free b o e n hx)
 ·obtain ⟨sl,e1⟩:=I.base.slot b o e n hb hx
  obtain ⟨iM,e2⟩:=slot b _ (fc b o e) hb (gF b o e hx) e1 (I.base.free b o e n hx)
  exact ⟨iM,e2⟩
 ·obtain ⟨o',e1⟩:=I.base.there b o e hx
  exact free b o' (gF b o e hx) e1 (I.base.free b o e n hx)
 ·obtain ⟨o',e1⟩:=I.base.there b o e hx
  exact there b o' (gF b o e hx) e1
 ·obtain ⟨m1,e1⟩:=I.base.tbls b ps e
  obtain ⟨m2,e2⟩:=tbls b _ e1
  exact ⟨m1++m2,by rw [e2,Array.append_assoc]⟩
 ·obtain ⟨m,hn,hl⟩:=I.loc
  refine ⟨m,ns m hn,λi x v e1 e2 e3=>?_⟩
  obtain ⟨u,r,l⟩:=hl i x v e1 e2 e3
  refine ⟨u,r,?_⟩
  rcases l with l | ⟨k,c,e,z⟩
  ·exact .inl l
  ·exact .inr ⟨k,c,e,fz x c e _ z⟩
 ·obtain ⟨v,z⟩:=I.cell x c e
  exact ⟨v,fz x c e v z⟩
 ·obtain ⟨m,⟨o,_,_,ho,_⟩,_⟩:=I.loc
  exact free _ o (λz=>(aV _ z).2.1 rfl) ho I.free
 ·obtain ⟨v,o,ho,hd⟩:=I.cell x c e
  exact free c o (λz=>(aV c z).2.2.1 x c e rfl) ho (I.freeC x c e)
 ·obtain ⟨e,n,ne,nf,d⟩:=I.pin p hp
  have ce:p.1∉ch:=λz=>(aV p.1 z).2.2.2 p hp rfl
  exact ⟨keep p.1 p.2 ne nf ce e n,free p.1 p.2 ce e n,ne,nf,d⟩
theorem Inv.step {g':Array GenState}{t':Nat}{d':Drawn}{ch:List Addr} (I:Inv X U Y H s)
  (aV:∀ b∈ch,(b∈X.ex\/X.s₀.heap.objs.size<=b)/\b≠X.env.locals/\(∀ x c,X.env.cells.lookup x=some c->c≠b)/\∀ p∈X.pn++U,p.1≠b)
  (keep:∀ b o,b≠X.env.locals->b∉X.fs->b∉ch->s.heap.get? b=some o->H b=none->h'.get? b=some o)
  (slot:∀ b o,b≠X.env.locals->b∈X.fs->b∉ch->s.heap.get? b=some o->H b=none->∃ sl,h'.get? b=some { o with slots:=sl }) (free:∀ b o,b∉ch->s.heap.get? b=some o->H b=none->H' b=none)
  (there:∀ b o,b∉ch->s.heap.get? b=some o->∃ o',h'.get? b=some o')
  (tups:∀ b xs,H b=some (.tup xs)->H' b=some (.tup xs)) (frzs:∀ b o u,H b=some (.frz o u)->H' b=some (.frz o u)) (tbls:∀ b ps,H b=some (.tbl ps)->∃ more,H' b=some (.tbl (ps++more)))
  (ns:∀ m,s.heap.Ns X.env.locals m->h'.Ns X.env.locals m) (hok:HOk X.prog X.w H' h') (hg:AllBare g') :
  Inv X U Y H' { s with heap:=h',gens:=g',drawn:=d',toks:=t' } :=
 I.stepN (λb hb=>⟨(aV b hb).1.imp id Heap.get?_none_of_le,(aV b hb).2⟩) keep slot free there tups frzs tbls ns hok hg
theorem Inv.un {t':Nat} (I:Inv X U Y H s) (u:Un X.fs [] H H' s.heap h') (hok:HOk X.prog X.w H' h'):Inv X U Y H' { s with heap:=h',toks:=t' }:=by
 obtain ⟨m,⟨o,es,ep,ho,r⟩,_⟩:=id I.loc
 obtain ⟨sl,hL⟩:=u.any ho I.free (by simp)
 exact I.step (g':=s.gens) (d':=s.drawn) (ch:=[]) (λ_ z=>nomatch z) (λb o _ hb _ e n=>u.keep b o e n hb (by simp)) (λb o _ hb _ e n=>u.slot b o e n hb (by simp)) (λb o _ e n=>u.free b o e n (by simp)) (λb o _ e=>u.there b o e (by simp)) u.tups u.frzs u.tbls (λm' hm=>by
  obtain ⟨o',es',iN,bN,r'⟩:=hm
  rw [ho] at bN;cases bN
  exact ⟨_,es',iN,hL,r'⟩) hok I.bare
theorem Inv.callN {g':Array GenState}{t':Nat}{d':Drawn}{ch:List Addr} (I:Inv X U Y H s) (u:Un (frs X.stack) ch H H' s.heap h') (hok:HOk X.prog X.w H' h') (hg:AllBare g')
  (aV:∀ b∈ch,(b∈X.ex\/X.s₀.heap.get? b=none)/\b≠X.env.locals/\(∀ x c,X.env.cells.lookup x=some c->c≠b)/\∀ p∈X.pn++U,p.1≠b) :
  Inv X U Y H' { s with heap:=h',gens:=g',drawn:=d',toks:=t' }:=by
 obtain ⟨m,⟨o,es,ep,ho,r⟩,_⟩:=id I.loc
 obtain ⟨sl,hL⟩:=u.any ho I.free λz=>(aV _ z).2.1 rfl
 exact I.stepN (ch:=ch) aV (λb o hL hb hc e n=>u.keep b o e n (λz=>(mem_cons.mp (I.stkSub b z)).elim hL hb) hc) (λb o _ _ hc e n=>u.any e n hc) (λb o hc e n=>u.free b o e n hc) (λb o hc e=>u.there b o e hc) u.tups u.frzs u.tbls (λm' hm=>by
  obtain ⟨o',es',iN,bN,r'⟩:=hm
  rw [ho] at bN;cases bN
  exact ⟨_,es',iN,hL,r'⟩) hok hg
theorem Inv.call {g':Array GenState}{t':Nat}{d':Drawn}{ch:List Addr} (I:Inv X U Y H s) (u:Un (frs X.stack) ch H H' s.heap h') (hok:HOk X.prog X.w H' h') (hg:AllBare g')
  (aV:∀ b∈ch,(b∈X.ex\/X.s₀.heap.objs.size<=b)/\b≠X.env.locals/\(∀ x c,X.env.cells.lookup x=some c->c≠b)/\∀ p∈X.pn++U,p.1≠b) :
  Inv X U Y H' { s with heap:=h',gens:=g',drawn:=d',toks:=t' } :=
 I.callN u hok hg λb hb=>⟨(aV b hb).1.imp id Heap.get?_none_of_le,(aV b hb).2⟩
theorem Inv.turned {t':Nat}{it:Addr} (I:Inv X U Y H s) (k:∀ b o,b≠it->s.heap.get? b=some o->h'.get? b=some o) (hn:H it=none) (hL:it≠X.env.locals)
  (h1:it∈X.ex\/X.s₀.heap.objs.size<=it) (h2:∀ x c,X.env.cells.lookup x=some c->c≠it) (h3:∀ p∈X.pn++U,p.1≠it):Inv X U Y H { s with heap:=h',toks:=t' }:=by
 have j9:∀ b u,H b=some u->b≠it:=λb u e z=>by rw [z,hn] at e;cases e
 refine I.step (g':=s.gens) (d':=s.drawn) (ch:=[it]) (λb hb=>?_) (λb o _ _ hc e _=>k b o (λz=>hc (by simp [z])) e) (λb o _ _ hc e _=>⟨o.slots,k b o (λz=>hc (by simp [z])) e⟩) (λ_ _ _ _ n=>n)
  (λb o hc e=>⟨o,k b o (λz=>hc (by simp [z])) e⟩) (λ_ _ e=>e) (λ_ _ _ e=>e) (λb ps e=>⟨#[],by rw [e];simp⟩) (λm hm=>?_) (λb u e=>?_) I.bare
 ·have e:b=it:=by simpa using hb
  subst e
  exact ⟨h1,hL,h2,h3⟩
 ·obtain ⟨o,es,ep,ho,r⟩:=hm
  exact ⟨o,es,ep,k _ o (Ne.symm hL) ho,r⟩
 ·refine (I.hok b u e).stay (λc v hc q=>k c v ?_ q) (λ_ q=>q) λ_ _ q=>q
  rcases hc with z | z
  ·rw [z];exact j9 b u e
  ·exact j9 c _ z
theorem Inv.tok (I:Inv X U Y H s) (t:Nat):Inv X U Y H { s with toks:=t }:=I.un (h':=s.heap) (t':=t) Un.refl I.hok
theorem Inv.kept {t':Nat} (I:Inv X U Y H s) (k:∀ b u,s.heap.get? b=some u->h'.get? b=some u):Inv X U Y H { s with heap:=h',toks:=t' }:=I.un (Un.kept k) (I.hok.kept k)
theorem Inv.laid {a:Addr}{o:HO}{t':Nat} (I:Inv X U Y H s) (k:∀ b u,s.heap.get? b=some u->h'.get? b=some u) (hp:s.heap.objs.size<=a) (new:ObjOk X.prog X.w (upd H a o) h' a o) :
  Inv X U Y (upd H a o) { s with heap:=h',toks:=t' }:=I.un (Un.laid k hp (I.hok.fresh hp)) (I.hok.laid k hp new)
theorem Inv.write {x e:Addr}{o:HO}{t':Nat} (I:Inv X U Y H s) (mu:Mut (H x)) (he:e=x\/H e=some (.own x)) (k:∀ b u,b≠e->s.heap.get? b=some u->h'.get? b=some u) (eZ:∃ u,h'.get? e=some u)
  (new:ObjOk X.prog X.w (upd H x o) h' x o):Inv X U Y (upd H x o) { s with heap:=h',toks:=t' }:=I.un (Un.write mu he k eZ) (I.hok.write mu he k eZ new)
theorem Inv.pins_of {fA:List (Addr×Obj)} (I:Inv X U Y H s) (h:∀ p∈fA,s.heap.get? p.1=some p.2/\H p.1=none/\p.1≠X.env.locals/\p.1∉X.fs/\∀ v,p.2.data≠.cell v):Inv X fA Y H s :=
 ⟨I.ok,I.os,I.bare,I.base,I.loc,I.cell,I.free,I.freeC,λp hp=>(mem_append.mp hp).elim (λz=>I.pin p (mem_append_left _ z)) (h p),I.hok,I.len⟩
theorem z7 {N:List Str} (hN:N.Nodup){i j:Nat}{x:Str} (a:N[i]?=some x) (b:N[j]?=some x):i=j:=by
 obtain ⟨h1,e1⟩:=List.getElem?_eq_some_iff.mp a
 obtain ⟨h2,e2⟩:=List.getElem?_eq_some_iff.mp b
 exact (List.getElem_inj hN).mp (e1.trans e2.symm)
theorem JL {M:Model}{A:Around}{E:Value->Shared->Prop}{i:Nat}{x:Str}{v:V}{u:Value}{Q:Unit->Shared->Prop} (I:Inv X U Y H s) (hN:X.N.Nodup) (hi:X.N[i]?=some x) (hx:Loc X.env.scope x) (r:RelV v u)
  (h:∀ s',Inv X U (Y.set i (some v)) H s'->(∃ a,Heap.SameBut a s.heap s'.heap/\(a=X.env.locals\/X.env.cells.lookup x=some a))->Q () s') (hf:X.fn x=true\/X.env.scope.names.lookup x=some .local):wpAny M A (storeName X.env x u) Q E s:=by
 obtain ⟨m,hn,hl⟩:=id I.loc
 have ka:(X.env.scope.kind == .class||(X.env.scope.kind == .module&&X.env.locals != X.env.globals))=false:=by rw [I.ok.kind];rfl
 have iA:i < Y.length:=by rw [I.len];exact (List.getElem?_eq_some_iff.mp hi).1
 have cne:=I.cne
 have cR:∀ {a:Addr}{h':Heap},(∃ o,s.heap.get? a=some o/\H a=none)->Heap.SameBut a s.heap h'->HOk X.prog X.w H h':=λ{a h'} ha hs b ob e=>by
  obtain ⟨_,_,fB⟩:=ha
  refine (I.hok b ob e).stay (λc w' hc q=>(hs.2 c ?_).trans q) (λ_ q=>q) λ_ _ q=>q
  rintro rfl
  rcases hc with rfl | hc
  ·rw [fB] at e;cases e
  ·rw [fB] at hc;cases hc
 rcases hx with hk | hk
 ·refine wpAny_storeName_local hk hn (λh' dy hs=>?_) ka
  obtain ⟨oL,_,_,mn,_⟩:=id hn
  refine h _ ⟨I.ok,I.os,I.bare,⟨λb o e n hb hx=>?_,λb o e n hb hx=>?_,I.base.free,λb o e hx=>?_,I.base.tups,I.base.frzs,I.base.tbls⟩,⟨_,dy,λj y v' e1 e2 e3=>?_⟩,λy c e=>?_,I.free,I.freeC,λp hp=>?_,cR ⟨oL,mn,I.free⟩ hs,by simpa using I.len⟩ ⟨_,hs,.inl rfl⟩
  ·exact (hs.2 b (ne_of_lt (lt_of_lt_of_le (lt_size e) I.ok.above))).trans (I.base.keep b o e n hb hx)
  ·obtain ⟨sl,e1⟩:=I.base.slot b o e n hb hx
   exact ⟨sl,(hs.2 b (ne_of_lt (lt_of_lt_of_le (lt_size e) I.ok.above))).trans e1⟩
  ·obtain ⟨o',e1⟩:=I.base.there b o e hx
   exact ⟨o',(hs.2 b (ne_of_lt (lt_of_lt_of_le (lt_size e) I.ok.above))).trans e1⟩
  ·by_cases hj:j=i
   ·subst hj
    rw [hi] at e1;cases e1
    rw [List.getElem?_set_self iA] at e2
    cases e2
    exact ⟨u,r,.inl ⟨hk,by simp⟩⟩
   ·rw [getElem?_set_ne (Ne.symm hj)] at e2
    obtain ⟨u',r',q⟩:=hl j y v' e1 e2 e3
    refine ⟨u',r',?_⟩
    rcases q with ⟨k,e⟩ | ⟨k,c,e,z⟩
    ·refine .inl ⟨k,?_⟩
     have:y≠x:=λe=>hj (z7 hN e1 (e▸hi))
     simp [this,e]
    ·exact .inr ⟨k,c,e,z.sameBut hs (cne y c e)⟩
  ·obtain ⟨w',z⟩:=I.cell y c e
   exact ⟨w',z.sameBut hs (cne y c e)⟩
  ·obtain ⟨e,n,ne,nf,d⟩:=I.pin p hp
   exact ⟨(hs.2 p.1 ne).trans e,n,ne,nf,d⟩
 ·have iO:X.fn x=true:=by
   rcases hf with z | z
   ·exact z
   ·rw [z] at hk;cases hk
  obtain ⟨c,hc⟩:=I.ok.has x (.inl hk)
  obtain ⟨w',z⟩:=I.cell x c hc
  refine wpAny_storeName_cell I.ok.kind hk hc z (λh' bx hs=>?_)
  obtain ⟨oc,kc,kf⟩:=id z
  refine h { s with heap:=h' } ⟨I.ok,I.os,I.bare,⟨λb o e n hb hx=>?_,λb o e n hb hx=>?_,I.base.free,λb o e hx=>?_,I.base.tups,I.base.frzs,I.base.tbls⟩,⟨m,hn.sameBut hs (Ne.symm (cne x c hc)),λj y v' e1 e2 e3=>?_⟩,λy c' e=>?_,I.free,I.freeC,λp hp=>?_,cR ⟨oc,kc,I.freeC x c hc⟩ hs,by simpa using I.len⟩ ⟨c,hs,.inr hc⟩
  ·exact (hs.2 b (ne_of_lt (lt_of_lt_of_le (lt_size e) (I.ok.cab x c iO hc)))).trans (I.base.keep b o e n hb hx)
  ·obtain ⟨sl,e1⟩:=I.base.slot b o e n hb hx
   exact ⟨sl,(hs.2 b (ne_of_lt (lt_of_lt_of_le (lt_size e) (I.ok.cab x c iO hc)))).trans e1⟩
  ·obtain ⟨o',e1⟩:=I.base.there b o e hx
   exact ⟨o',(hs.2 b (ne_of_lt (lt_of_lt_of_le (lt_size e) (I.ok.cab x c iO hc)))).trans e1⟩
  ·by_cases hj:j=i
   ·subst hj
    rw [hi] at e1;cases e1
    rw [List.getElem?_set_self iA] at e2
    cases e2
    exact ⟨u,r,.inr ⟨.inl hk,c,hc,bx⟩⟩
   ·rw [getElem?_set_ne (Ne.symm hj)] at e2
    obtain ⟨u',r',q⟩:=hl j y v' e1 e2 e3
    refine ⟨u',r',?_⟩
    rcases q with q | ⟨k,c',e,z'⟩
    ·exact .inl q
    ·refine .inr ⟨k,c',e,z'.sameBut hs ?_⟩
     rintro rfl
     exact hj (z7 hN e1 (I.ok.inj _ _ _ e hc▸hi))
  ·by_cases iP:c'=c
   ·subst iP;exact ⟨_,bx⟩
   ·obtain ⟨w2,z2⟩:=I.cell y c' e
    exact ⟨w2,z2.sameBut hs iP⟩
  ·obtain ⟨e,n,ne,nf,d⟩:=I.pin p hp
   refine ⟨(hs.2 p.1 ?_).trans e,n,ne,nf,d⟩
   intro q
   rw [q,kc] at e
   have q':oc=p.2:=Option.some.inj e
   exact d w' (by rw [← q'];exact kf)
theorem zk {M:Model}{A:Around}{E:Value->Shared->Prop}{i:Nat}{x:Str}{v:V}{u:Value}{Q:Unit->Shared->Prop} (I:Inv X U Y H s) (hN:X.N.Nodup) (hi:X.N[i]?=some x) (hx:Loc X.env.scope x) (r:RelV v u)
  (h:∀ s',Inv X U (Y.set i (some v)) H s'->Q () s') (hf:X.fn x=true\/X.env.scope.names.lookup x=some .local):wpAny M A (storeName X.env x u) Q E s :=
 JL I hN hi hx r (λs' I' _=>h s' I') hf
theorem Inv.call' {s':Shared}{ch:List Addr} (I:Inv X U Y H s) (ho:s'.os=s.os) (u:Un (frs X.stack) ch H H' s.heap s'.heap) (hok:HOk X.prog X.w H' s'.heap) (hg:AllBare s'.gens)
  (aV:∀ b∈ch,(b∈X.ex\/X.s₀.heap.objs.size<=b)/\b≠X.env.locals/\(∀ x c,X.env.cells.lookup x=some c->c≠b)/\∀ p∈X.pn++U,p.1≠b):Inv X U Y H' s':=by
 obtain ⟨h',g',d',t',o'⟩:=s'
 have e:o'=s.os:=ho
 subst e
 exact I.call (g':=g') (t':=t') (d':=d') u hok hg aV
end
abbrev XK:=Value->Option Addr->Hp->Prop
abbrev St:=List (Option V)
abbrev VK:=V->Hp->Prop
abbrev TE:=St->Hp->VK->Prop
abbrev TT:=St->Hp->(Bool->Hp->Prop)->Prop
abbrev TA:=St->Hp->(List V->Hp->Prop)->Prop
structure Ends where
 nx:St->Hp->Prop
 rt:VK
 bk:St->Hp->Prop:=λ_ _=>False
 ct:St->Hp->Prop:=λ_ _=>False
abbrev TS:=Ends->St->Hp->Prop
def EP (X:Cx) (U:List (Addr×Obj)) (Y:St) (Q:VK) (u:Value) (s':Shared):Prop:=∃ v H',Inv X U Y H' s'/\RelV v u/\Q v H'
def TP (X:Cx) (U:List (Addr×Obj)) (Y:St) (Q:Bool->Hp->Prop) (b:Bool) (s':Shared):Prop:=∃ H',Inv X U Y H' s'/\Q b H'
def AP (X:Cx) (U:List (Addr×Obj)) (Y:St) (Q:List V->Hp->Prop) (us:List Value) (s':Shared):Prop:=∃ vs H',Inv X U Y H' s'/\Vals vs us/\Q vs H'
def SP (X:Cx) (U:List (Addr×Obj)) (D:Ends) (f:Flow) (s':Shared):Prop :=
 match f with
 | .next=>∃ ai H',Inv X U ai H' s'/\D.nx ai H'
 | .brk=>∃ ai H',Inv X U ai H' s'/\D.bk ai H'
 | .cont=>∃ ai H',Inv X U ai H' s'/\D.ct ai H'
 | .ret u=>∃ v ai H',Inv X U ai H' s'/\RelV v u/\D.rt v H'
def PE (X:Cx) (e:Expr) (t:TE):Prop :=
 ∀ (U:List (Addr×Obj)) (s:Shared) (Y:St) (H:Hp) (Q:VK),Inv X U Y H s->t Y H Q->wpAny (model X.prog X.w) X.A (eval e X.env) (EP X U Y Q) X.xe s
def PT (X:Cx) (e:Expr) (t:TT):Prop :=
 ∀ (U:List (Addr×Obj)) (s:Shared) (Y:St) (H:Hp) (Q:Bool->Hp->Prop),Inv X U Y H s->t Y H Q->wpAny (model X.prog X.w) X.A (isTrue e X.env (eval e X.env)) (TP X U Y Q) X.xe s
def PW (X:Cx) (e:Expr) (t:TT):Prop :=
 ∀ (bz:Sem Value) (U:List (Addr×Obj)) (s:Shared) (Y:St) (H:Hp) (Q:Bool->Hp->Prop),Inv X U Y H s->t Y H Q->wpAny (model X.prog X.w) X.A (isTrue e X.env bz) (TP X U Y Q) X.xe s
def PA (X:Cx) (es:List Expr) (t:TA):Prop :=
 ∀ (pos:Pos) (U:List (Addr×Obj)) (s:Shared) (Y:St) (H:Hp) (Q:List V->Hp->Prop),Inv X U Y H s->t Y H Q->wpAny (model X.prog X.w) X.A (spliced (backTo pos (starEach es X.env))) (AP X U Y Q) X.xe s
def PS (X:Cx) (st:Stmt) (t:TS):Prop :=
 ∀ (U:List (Addr×Obj)) (s:Shared) (Y:St) (H:Hp) (D:Ends),Inv X U Y H s->t D Y H->wpAny (model X.prog X.w) X.A (exec st X.env) (SP X U D) X.xe s
def PSs (X:Cx) (st:List Stmt) (t:TS):Prop :=
 ∀ (U:List (Addr×Obj)) (s:Shared) (Y:St) (H:Hp) (D:Ends),Inv X U Y H s->t D Y H->wpAny (model X.prog X.w) X.A (execs st X.env) (SP X U D) X.xe s
theorem thn {α:Type}{t:Sem α}{Q Q':α->Shared->Prop}{M:Model}{A:Around}{E:Value->Shared->Prop}{s:Shared} (h:wpAny M A t Q E s) (hQ:∀ a s,Q a s->Q' a s):wpAny M A t Q' E s:=wpAny_mono h hQ λ_ _ x=>x
section
variable {X:Cx}
noncomputable def tVar (i:Nat):TE:=λY H Q=>∃ v,Y[i]?=some (some v)/\Q v H
noncomputable def tC (v:V):TE:=λ_ H Q=>Q v H
theorem Hs {i:Nat}{x:Str}{pos:Pos} (hN:X.N[i]?=some x) (hv:Vis X.env.scope x) (hd:(x == ("__debug__":Str))=false:=by decide) (bW:(x == ("__classdict__":Str))=false:=by decide):PE X (.Name x pos) (tVar i):=by
 intro U s Y H Q I h
 obtain ⟨v,e,h⟩:=h
 obtain ⟨m,hn,hl⟩:=I.loc
 obtain ⟨u,r,l⟩:=hl i x v hN e hv
 have fin:EP X U Y Q u s:=⟨v,H,I,r,h⟩
 rcases l with ⟨hk,hm⟩ | ⟨hk,c,hc,fC⟩
 ·exact wpAny_Name (wpAny_loadName_local I.ok.kind hk hn hm fin) hd
 ·rcases hk with hk | hk
  ·exact wpAny_Name (wpAny_loadName_cell I.ok.kind hk hc fC fin) hd
  ·exact wpAny_Name (wpAny_loadName_free I.ok.kind hk hc fC fin bW) hd
theorem Fz {i j pos}:PE X (.Constant (.int i) j pos) (tC (.int i)):=λ_ _ _ H _ I h=>wpAny_Constant_int ⟨.int i,H,I.tok _,⟨_,rfl⟩,h⟩
theorem FC {b j pos}:PE X (.Constant (.bool b) j pos) (tC (.bl b)):=λ_ _ _ H _ I h=>Constant_bool ⟨.bl b,H,I,rfl,h⟩
theorem KR {j pos}:PE X (.Constant .none j pos) (tC .non):=λ_ _ _ H _ I h=>Constant_none ⟨.non,H,I,rfl,h⟩
theorem BU {x j pos}:PE X (.Constant (.str x) j pos) (tC (.str x)):=λ_ _ _ H _ I h=>Calls.Constant_str ⟨.str x,H,I.tok _,⟨_,rfl⟩,h⟩
def Gl (X:Cx) (x:Str):Prop:=X.env.kindOf x=some .globalImplicit
theorem t9 {E:Value->Shared->Prop}{U:List (Addr×Obj)}{s:Shared}{Y:St}{H:Hp}{x:Str}{u:Value}{pos:Pos}{Q:Value->Shared->Prop} (I:Inv X U Y H s) (hg:Gl X x) (hm:X.mg x=some u) (h:Q u s)
  (hd:(x == ("__debug__":Str))=false:=by decide):wpAny (model X.prog X.w) X.A (eval (.Name x pos) X.env) Q E s :=
 Calls.Name_function_global I.ok.kind hg (Calls.loadGlobal_global (by rw [I.ok.glob];exact I.mod.glob.keeps I.bk) hm h) hd
theorem rR {E:Value->Shared->Prop}{U:List (Addr×Obj)}{s:Shared}{Y:St}{H:Hp}{x:Str}{u:Value}{pos:Pos}{Q:Value->Shared->Prop} (I:Inv X U Y H s) (hg:Gl X x) (hm:X.mg x=none) (hv:bootBuiltins x=some u) (h:Q u s)
  (hn:x ≠ "__name__":=by decide) (hd:(x == ("__debug__":Str))=false:=by decide):wpAny (model X.prog X.w) X.A (eval (.Name x pos) X.env) Q E s:=by
 obtain ⟨mb,h1,h2⟩:=I.mod.blt
 exact Calls.Name_function_global I.ok.kind hg (Calls.loadGlobal_builtin (by rw [I.ok.glob];exact I.mod.glob.keeps I.bk) hm (by rw [I.ok.blt];exact h1.keeps I.bk) ((h2 x hn).trans hv) h) hd
theorem qZ {x:Str}{v:V}{u:Value}{pos:Pos} (hg:Gl X x) (hm:X.mg x=some u) (r:RelV v u) (hd:(x == ("__debug__":Str))=false:=by decide):PE X (.Name x pos) (tC v) :=
 λ_ _ _ H _ I h=>t9 I hg hm ⟨v,H,I,r,h⟩ hd
theorem Fk {x:Str}{v:V}{u:Value}{pos:Pos} (hg:Gl X x) (hm:X.mg x=none) (hv:bootBuiltins x=some u) (r:RelV v u) (hn:x ≠ "__name__":=by decide) (hd:(x == ("__debug__":Str))=false:=by decide):PE X (.Name x pos) (tC v) :=
 λ_ _ _ H _ I h=>rR I hg hm hv ⟨v,H,I,r,h⟩ hn hd
variable {a b:Expr}{ta tb:TE}{pos:Pos}
noncomputable def tB (t:TE):TT:=λY H Q=>t Y H λx H1=>∃ c,x=.bl c/\Q c H1
theorem KU {e:Expr}{t:TE} (h:PE X e t) (he:∀ bz,isTrue e X.env bz=(do let v ← bz;standAt e.pos;holding [v] (truthy v)):=by intro _;rfl):PT X e (tB t):=by
 intro U s Y H Q I hw
 refine isTrue_plain (thn (h U s Y H _ I hw) λv s1 ⟨x,H1,I1,r1,q1⟩=>?_) (he _)
 obtain ⟨d,rfl,q⟩:=q1
 cases r1
 exact wpAny_truthy_bool ⟨H1,I1,q⟩
variable {tA gG:TT}{aw:List Expr}
noncomputable def tAnd (t u:TT):TT:=λY H Q=>t Y H λc H1=>if c=true then u Y H1 Q else Q false H1
noncomputable def tOr (t u:TT):TT:=λY H Q=>t Y H λc H1=>if c=true then Q true H1 else u Y H1 Q
noncomputable def tNot (t:TT):TT:=λY H Q=>t Y H λc H1=>Q (!c) H1
theorem F5 (ha:PT X a tA):PW X (.BoolOp .And [a] pos) tA:=by
 intro wh U s Y H Q I h
 refine isTrue_and (thn (ha U s Y H Q I h) λc s1 e=>?_)
 cases c with
 | true=>exact isTrue_and_nil e
 | false=>exact e
theorem Eo (ha:PT X a tA):PW X (.BoolOp .Or [a] pos) tA:=by
 intro wh U s Y H Q I h
 refine isTrue_or (thn (ha U s Y H Q I h) λc s1 e=>?_)
 cases c with
 | false=>exact isTrue_or_nil e
 | true=>exact e
theorem GK (ha:PT X a tA) (hb:PW X (.BoolOp .And (b::aw) pos) gG):PW X (.BoolOp .And (a::b::aw) pos) (tAnd tA gG):=by
 intro wh U s Y H Q I h
 refine isTrue_and (thn (ha U s Y H _ I h) λc s1 ⟨H1,I1,q1⟩=>?_)
 cases c with
 | true=>exact hb wh U s1 Y H1 Q I1 q1
 | false=>exact ⟨H1,I1,q1⟩
theorem Ep (ha:PT X a tA) (hb:PW X (.BoolOp .Or (b::aw) pos) gG):PW X (.BoolOp .Or (a::b::aw) pos) (tOr tA gG):=by
 intro wh U s Y H Q I h
 refine isTrue_or (thn (ha U s Y H _ I h) λc s1 ⟨H1,I1,q1⟩=>?_)
 cases c with
 | true=>exact ⟨H1,I1,q1⟩
 | false=>exact hb wh U s1 Y H1 Q I1 q1
theorem FP (ha:PT X a tA):PT X (.UnaryOp .Not a pos) (tNot tA):=by
 intro U s Y H Q I h
 exact isTrue_not (ha U s Y H (λc H1=>Q (!c) H1) I h)
noncomputable def tAndV (ta tb:TE):TE:=λY H Q=>ta Y H λx H1=>∃ c,x=.bl c/\if c=true then tb Y H1 Q else Q (.bl false) H1
noncomputable def tNotV (ta:TE):TE:=λY H Q=>ta Y H λx H1=>∃ c,x=.bl c/\Q (.bl (!c)) H1
theorem J5 {op}{t:TE} (h:PE X a t):PE X (.BoolOp op [a] pos) t:=λU s Y H Q I hw=>BoolOp_one (h U s Y H Q I hw)
theorem HL (ha:PE X a ta) (hb:PE X (.BoolOp .And (b::aw) pos) tb):PE X (.BoolOp .And (a::b::aw) pos) (tAndV ta tb):=by
 intro U s Y H Q I h
 refine BoolOp_and (thn (ha U s Y H _ I h) λv s1 ⟨x,H1,I1,r1,q1⟩=>?_)
 obtain ⟨c,rfl,q1⟩:=q1
 cases r1
 refine wpAny_truthy_bool ?_
 cases c with
 | true=>exact hb U s1 Y H1 Q I1 q1
 | false=>exact ⟨.bl false,H1,I1,rfl,q1⟩
theorem GS (ha:PE X a ta):PE X (.UnaryOp .Not a pos) (tNotV ta):=by
 intro U s Y H Q I h
 refine UnaryOp_ (thn (ha U s Y H _ I h) λv s1 ⟨x,H1,I1,r1,q1⟩=>?_)
 obtain ⟨c,rfl,q1⟩:=q1
 cases r1
 exact not_of (wpAny_truthy_bool ⟨.bl (!c),H1,I1,rfl,q1⟩)
noncomputable def tIf (t:TT) (ta tb:TE):TE:=λY H Q=>t Y H λc H1=>if c=true then ta Y H1 Q else tb Y H1 Q
theorem Hi {c:Expr} (hc:PT X c tA) (ha:PE X a ta) (hb:PE X b tb):PE X (.IfExp c a b pos) (tIf tA ta tb):=by
 intro U s Y H Q I h
 refine wpAny_IfExp (thn (hc U s Y H _ I h) λd s1 ⟨H1,I1,q1⟩=>?_)
 cases d with
 | true=>exact ha U s1 Y H1 Q I1 q1
 | false=>exact hb U s1 Y H1 Q I1 q1
end
def SqL (K:PySem.W.Frag) (H:Hp) (a:Addr) (xs:List V):Prop :=
 Rd H a (.lst xs) ∨
  ∃ (o:Obj) (ac:Array Value) (n:Nat),K.lookup a=some o/\o.cls=.type "list"/\o.dict=none/\o.data=.seq ac n/\ac.size<=sizeLine/\Vals xs ac.toList
def SqT (K:PySem.W.Frag) (H:Hp) (a:Addr) (xs:List V):Prop :=
 Rd H a (.tup xs) ∨
  ∃ (o:Obj) (ac:Array Value) (n:Nat),K.lookup a=some o/\o.cls=.type "tuple"/\o.data=.seq ac n/\ac.size<=sizeLine/\Vals xs ac.toList
noncomputable def absV:Value->Option V
 | .none=>some .non
 | .bool b=>some (.bl b)
 | .int i _=>some (.int i)
 | .str x _=>some (.str x)
 | .bytes b _=>some (.byt b)
 | .float b _=>some (.flt b)
 | .ref a=>some (.ref a)
 | .type n=>some (.ty n)
 | _=>none
theorem RelV.abs {x:V}{u:Value} (r:RelV x u):absV u=some x:=by
 cases x with
 | non=>cases r;rfl
 | bl _=>cases r;rfl
 | int _=>obtain ⟨t,rfl⟩:=r;rfl
 | str _=>obtain ⟨t,rfl⟩:=r;rfl
 | byt _=>obtain ⟨t,rfl⟩:=r;rfl
 | flt _=>obtain ⟨t,rfl⟩:=r;rfl
 | ref _=>cases r;rfl
 | ty _=>cases r;rfl
theorem RelV.inj {x y:V}{u:Value} (r:RelV x u) (q:RelV y u):x=y:=Option.some.inj (r.abs.symm.trans q.abs)
theorem Vals.inj:∀ {xs ys:List V}{us:List Value},Vals xs us->Vals ys us->xs=ys
 | _,_,_,.nil,.nil=>rfl
 | _,_,_,.cons r t,.cons r' t'=>by rw [r.inj r',Vals.inj t t']
section
variable {X:Cx}{U:List (Addr×Obj)}{Y:St}{H:Hp}{s:Shared}{a:Addr}{xs ys:List V}
theorem SqL.of {K:PySem.W.Frag} (h:H a=some (.lst xs)):SqL K H a xs:=.inl (.inl h)
theorem SqT.of {K:PySem.W.Frag} (h:H a=some (.tup xs)):SqT K H a xs:=.inl (.inl h)
theorem Inv.list (I:Inv X U Y H s) (h:SqL X.K H a xs):∃ ac:List Value,Vals xs ac/\PlainL s.heap a ac.toArray/\xs.length<=sizeLine:=by
 rcases h with h | ⟨o,ac,n,hk,hc,hd,hs,hz,r⟩
 ·obtain ⟨z,ac,n,r,e⟩:=h.ok I.hok
  exact ⟨ac,r,⟨_,n,e,rfl,rfl,rfl⟩,z⟩
 ·refine ⟨ac.toList,r,⟨o,n,I.kIn a o hk,hc,hd,by simpa using hs⟩,?_⟩
  have e:=r.length
  simp only [length_toList] at e
  omega
theorem Inv.tuple (I:Inv X U Y H s) (h:SqT X.K H a xs):∃ ac:List Value,Vals xs ac/\IsTup s.heap a ac.toArray/\xs.length<=sizeLine:=by
 rcases h with h | ⟨o,ac,n,hk,hc,hs,hz,r⟩
 ·obtain ⟨z,ac,r,p⟩:=h.ok I.hok
  exact ⟨ac,r,p,z⟩
 ·refine ⟨ac.toList,r,⟨o,I.kIn a o hk,hc,n,by simpa using hs⟩,?_⟩
  have e:=r.length
  simp only [length_toList] at e
  omega
theorem Inv.list_inj (I:Inv X U Y H s) (h:SqL X.K H a xs) (h':SqL X.K H a ys):xs=ys:=by
 obtain ⟨ac,r,⟨o,n,e,_,_,d⟩,_⟩:=I.list h
 obtain ⟨its',r',⟨o',n',e',_,_,d'⟩,_⟩:=I.list h'
 rw [e] at e';cases e'
 rw [d] at d'
 injection d' with d1 _
 have:ac=its':=by simpa using congrArg toList d1
 subst this
 exact r.inj r'
theorem Inv.tuple_inj (I:Inv X U Y H s) (h:SqT X.K H a xs) (h':SqT X.K H a ys):xs=ys:=by
 obtain ⟨ac,r,⟨o,e,_,n,d⟩,_⟩:=I.tuple h
 obtain ⟨its',r',⟨o',e',_,n',d'⟩,_⟩:=I.tuple h'
 rw [e] at e';cases e'
 rw [d] at d'
 injection d' with d1 _
 have:ac=its':=by simpa using congrArg toList d1
 subst this
 exact r.inj r'
end
noncomputable abbrev Cx.wish (X:Cx) (E:Value->Shared->Prop):Cx:={ X with xe:=E }
noncomputable abbrev Cx.nox (X:Cx):Cx:=X.wish λ_ _=>False
theorem Cx.Ok.wish {X:Cx} (ok:X.Ok) (E:Value->Shared->Prop):(X.wish E).Ok :=
 ⟨ok.mod,ok.kind,ok.glob,ok.blt,ok.above,ok.inj,ok.has,ok.cab,ok.hd,ok.frames,ok.stk,ok.exf,ok.bs,ok.bsz,ok.noex,ok.exfs,ok.funs,ok.frf⟩
theorem Cx.Ok.unwish {X:Cx}{E:Value->Shared->Prop} (ok:(X.wish E).Ok):X.Ok :=
 ⟨ok.mod,ok.kind,ok.glob,ok.blt,ok.above,ok.inj,ok.has,ok.cab,ok.hd,ok.frames,ok.stk,ok.exf,ok.bs,ok.bsz,ok.noex,ok.exfs,ok.funs,ok.frf⟩
section
variable {X:Cx}{U:List (Addr×Obj)}{Y:St}{H:Hp}{s:Shared}{E:Value->Shared->Prop}
theorem Inv.wish (I:Inv X U Y H s) (E:Value->Shared->Prop):Inv (X.wish E) U Y H s:=⟨I.ok.wish E,I.os,I.bare,I.base,I.loc,I.cell,I.free,I.freeC,I.pin,I.hok,I.len⟩
theorem Inv.unwish (I:Inv (X.wish E) U Y H s):Inv X U Y H s:=⟨I.ok.unwish,I.os,I.bare,I.base,I.loc,I.cell,I.free,I.freeC,I.pin,I.hok,I.len⟩
theorem SP.unwish {D:Ends}{f:Flow}{s':Shared} (h:SP (X.wish E) U D f s'):SP X U D f s':=by
 cases f with
 | next=>obtain ⟨ai,H',I,q⟩:=h;exact ⟨ai,H',I.unwish,q⟩
 | brk=>obtain ⟨ai,H',I,q⟩:=h;exact ⟨ai,H',I.unwish,q⟩
 | cont=>obtain ⟨ai,H',I,q⟩:=h;exact ⟨ai,H',I.unwish,q⟩
 | ret u=>obtain ⟨v,ai,H',I,r,q⟩:=h;exact ⟨v,ai,H',I.unwish,r,q⟩
theorem PE.nox {e:Expr}{t:TE} (h:PE X.nox e t):PE X e t:=λU s Y H Q I hw =>
 wpAny_mono (h U s Y H Q (I.wish _) hw) (λ_ _ ⟨v,H',I',r,q⟩=>⟨v,H',I'.unwish,r,q⟩) λ_ _ z=>elim z
theorem PSs.nox {st:List Stmt}{t:TS} (h:PSs X.nox st t):PSs X st t:=λU s Y H D I hw =>
 wpAny_mono (h U s Y H D (I.wish _) hw) (λ_ _ q=>q.unwish) λ_ _ z=>elim z
end
section
variable {X:Cx}{st:Stmt}{aw:List Stmt}{t u:TS}{e:Expr}{te:TE}{pos:Pos}
noncomputable def tNext:TS:=λD Y H=>D.nx Y H
noncomputable def tSeq (t u:TS):TS:=λD Y H=>t { D with nx:=u D } Y H
theorem Hc:PSs X [] tNext:=λ_ _ Y H _ I h=>wpAny_execs_nil ⟨Y,H,I,h⟩
theorem wS (h1:PS X st t) (h2:PSs X aw u):PSs X (st::aw) (tSeq t u):=by
 intro U s Y H D I h
 refine wpAny_execs_cons (thn (h1 U s Y H { D with nx:=u D } I h) λf s1 q=>?_)
 cases f with
 | next =>
  obtain ⟨ai,H',I',q⟩:=q
  exact h2 U s1 ai H' D I' q
 | ret v=>exact q
 | brk=>exact q
 | cont=>exact q
theorem AS (h1:PS X st t):PSs X [st] t:=by
 intro U s Y H D I h
 refine wpAny_execs_cons (thn (h1 U s Y H D I h) λf s1 q=>?_)
 cases f with
 | next=>exact wpAny_execs_nil q
 | ret v=>exact q
 | brk=>exact q
 | cont=>exact q
theorem Inv.quiet {U:List (Addr×Obj)}{Y:St}{H:Hp}{s:Shared} (I:Inv X U Y H s):interactive X.env=false:=by simp [interactive,I.ok.kind]
noncomputable def tDrop (te:TE):TS:=λD Y H=>te Y H λ_ H1=>D.nx Y H1
theorem y9 (he:PE X e te) (hs:swapsWith e none pos.line X.env=pure false:=by rfl):PS X (.Expr e pos) (tDrop te):=by
 intro U s Y H D I h
 exact wpAny_Expr_any (thn (he U s Y H _ I h) λv s1 ⟨x,H1,I1,r1,q1⟩=>⟨Y,H1,I1,q1⟩) I.quiet hs
noncomputable def tRet (te:TE):TS:=λD Y H=>te Y H D.rt
theorem yq (he:PE X e te):PS X (.Return (some e) pos) (tRet te):=by
 intro U s Y H D I h
 exact wpAny_Return_some (thn (he U s Y H _ I h) λv s1 ⟨x,H1,I1,r1,q1⟩=>⟨x,Y,H1,I1,r1,q1⟩)
noncomputable def tIfS (c:TT) (t u:TS):TS:=λD Y H=>c Y H λb H1=>if b=true then t D Y H1 else u D Y H1
theorem CV {c:Expr}{a b:List Stmt}{tc:TT} (hc:PT X c tc) (ha:PSs X a t) (hb:PSs X b u):PS X (.If c a b pos) (tIfS tc t u):=by
 intro U s Y H D I h
 refine wpAny_If (thn (hc U s Y H _ I h) λd s1 ⟨H1,I1,q1⟩=>?_)
 cases d with
 | true=>exact ha U s1 Y H1 D I1 q1
 | false=>exact hb U s1 Y H1 D I1 q1
noncomputable def tNever:TS:=λ_ _ _=>False
theorem Go:PS X st tNever:=λ_ _ _ _ _ _ h=>h.elim
end
abbrev TG:=V->St->Hp->(St->Hp->Prop)->Prop
abbrev TGs:=List V->St->Hp->(St->Hp->Prop)->Prop
def PG (X:Cx) (gI:Expr) (t:TG):Prop :=
 ∀ (U:List (Addr×Obj)) (s:Shared) (Y:St) (H:Hp) (v:V) (u:Value) (Q:St->Hp->Prop),Inv X U Y H s->RelV v u->t v Y H Q →
  wpAny (model X.prog X.w) X.A (assign gI X.env u) (λ_ s'=>∃ ai H',Inv X U ai H' s'/\Q ai H') X.xe s
def PGs (X:Cx) (ts:List Expr) (t:TGs):Prop :=
 ∀ (U:List (Addr×Obj)) (s:Shared) (Y:St) (H:Hp) (vs:List V) (us:List Value) (Q:St->Hp->Prop),Inv X U Y H s->Vals vs us->t vs Y H Q →
  wpAny (model X.prog X.w) X.A (assignInOrder ((assignEach ts X.env).map (·.2)) us) (λ_ s'=>∃ ai H',Inv X U ai H' s'/\Q ai H') X.xe s
abbrev TSet:=V->V->V->Hp->(Hp->Prop)->Prop
def PSet (X:Cx) (t:TSet):Prop :=
 ∀ (U:List (Addr×Obj)) (s:Shared) (Y:St) (H:Hp) (o i v:V) (ov iv u:Value) (Q:Hp->Prop),Inv X U Y H s->RelV o ov->RelV i iv->RelV v u->t o i v H Q →
  wpAny (model X.prog X.w) X.A (setItem ov iv u) (λ_ s'=>∃ H',Inv X U Y H' s'/\Q H') X.xe s
section
variable {X:Cx}{pos:Pos}
noncomputable def gName (i:Nat):TG:=λv Y H Q=>Q (Y.set i (some v)) H
theorem II {i:Nat}{x:Str} (hN:X.N.Nodup) (hi:X.N[i]?=some x) (hx:Loc X.env.scope x) (hf:X.fn x=true\/X.env.scope.names.lookup x=some .local):PG X (.Name x pos) (gName i):=by
 intro U s Y H v u Q I r h
 exact wpAny_assign_Name (zk I hN hi hx r (λs' I'=>⟨_,H,I',h⟩) hf)
noncomputable def gNil:TGs:=λvs Y H Q=>vs=[]/\Q Y H
noncomputable def gCons (t:TG) (u:TGs):TGs:=λvs Y H Q=>∃ v r,vs=v::r/\t v Y H λai H'=>u r ai H' Q
theorem FO:PGs X [] gNil:=by
 intro U s Y H vs us Q I r h
 obtain ⟨e,h⟩:=h
 subst e
 cases r
 exact assignInOrder_nil ⟨Y,H,I,h⟩
theorem GZ {e:Expr}{es:List Expr}{t:TG}{u:TGs} (h1:PG X e t) (h2:PGs X es u)
  (hs:(assignEach (e::es) X.env).map (·.2)=assign e X.env::(assignEach es X.env).map (·.2):=by rfl):PGs X (e::es) (gCons t u):=by
 intro U s Y H vs us Q I r h
 obtain ⟨v,vr,e1,h⟩:=h
 subst e1
 cases r with
 | cons r rr =>
  rw [hs]
  refine assignInOrder_cons (thn (h1 U s Y H _ _ _ I r h) λ_ s1 ⟨cf,H1,I1,q1⟩=>?_)
  exact h2 U s1 cf H1 _ _ Q I1 rr q1
noncomputable def gTup (K:PySem.W.Frag) (n:Nat) (t:TGs):TG:=λv Y H Q=>∃ a xs,v=.ref a/\SqT K H a xs/\xs.length=n/\t xs Y H Q
theorem K3 {es:List Expr}{k:Nat}{t:TGs}{n:Nat} (hc:X.calm=true) (h:PGs X es t)
  (hn:(assignEach es X.env).length=n:=by rfl) (iQ:(assignEach es X.env).findIdx? (·.1)=none:=by rfl):PG X (.Tuple es k pos) (gTup X.K n t):=by
 intro U s Y H v u Q I r hw
 obtain ⟨a,xs,e1,hq,hl,hw⟩:=hw
 subst e1
 cases r
 obtain ⟨ac,rv,ht,hz⟩:=I.tuple hq
 refine assign_Tuple_tuple (I.ok.hd hc) ht (by simp [hn,← hl,rv.length]) iQ λh' hx=>?_
 have I1:Inv X U Y H { s with heap:=h' }:=I.kept (t':=s.toks) λb o e=>hx b o (ne_of_lt (lt_size e)) e
 exact h U _ Y H xs _ Q I1 (by simpa using rv) hw
noncomputable def gSub (to ti:TE) (t:TSet):TG:=λv Y H Q=>to Y H λo H1=>ti Y H1 λi H2=>t o i v H2 λH3=>Q Y H3
theorem Hk {o i:Expr}{to ti:TE}{t:TSet} (ho:PE X o to) (hi:PE X i ti) (hs:PSet X t)
  (ha:∀ v,assign (.Subscript o i pos) X.env v=(do
   let ov ← holding [v] (eval o X.env)
   let iv ← holding [v,ov] (eval i X.env)
   standAt pos
   holding [v,ov,iv] (setItem ov iv v)
   release [v,ov,iv] []):=by intro _;rfl):PG X (.Subscript o i pos) (gSub to ti t):=by
 intro U s Y H v u Q I r h
 rw [ha]
 refine wpAny_bind (wpAny_holding (thn (ho U s Y H _ I h) λov s1 ⟨x,H1,I1,r1,q1⟩=>?_))
 refine wpAny_bind (wpAny_holding (thn (hi U s1 Y H1 _ I1 q1) λiv s2 ⟨y,H2,I2,r2,q2⟩=>?_))
 refine wpAny_bind (wpAny_standAt (wpAny_bind (wpAny_holding (thn (hs U s2 Y H2 x y v ov iv u _ I2 r1 r2 r q2) λ_ s3 ⟨H3,I3,q3⟩=>?_))))
 exact wpAny_release ⟨Y,H3,I3,q3⟩
noncomputable def tAsg (te:TE) (g:TG):TS:=λD Y H=>te Y H λx H1=>g x Y H1 D.nx
theorem AL {tg e:Expr}{te:TE}{g:TG} (he:PE X e te) (hg:PG X tg g) (hs:swapsWithSole [tg] e pos.line X.env=pure false:=by rfl) (hw:swappedStores [tg] e X.env=pure none:=by rfl)
  (h1:(assignEach [tg] X.env).map (·.2)=[assign tg X.env]:=by rfl):PS X (.Assign [tg] e pos) (tAsg te g):=by
 intro U s Y H D I h
 refine wpAny_Assign_stores (thn (he U s Y H _ I h) λv s1 ⟨x,H1,I1,r1,q1⟩=>?_) hs hw
 rw [h1]
 exact thn (hg U s1 Y H1 x v _ I1 r1 q1) λ_ s2 q=>q
theorem y0 {i:Nat}{x:Str}{e:Expr}{te:TE}{aL:Pos} (hN:X.N.Nodup) (hi:X.N[i]?=some x) (hx:Loc X.env.scope x) (he:PE X e te) (hs:swapsWith e (some (.Name x aL)) pos.line X.env=pure false:=by rfl) (hf:X.fn x=true\/X.env.scope.names.lookup x=some .local) :
  PS X (.Assign [.Name x aL] e pos) (tAsg te (gName i)):=by
 intro U s Y H D I h
 refine wpAny_Assign_Name (thn (he U s Y H _ I h) λv s1 ⟨y,H1,I1,r1,q1⟩=>?_) hs
 exact zk I1 hN hi hx r1 (λs2 I2=>⟨_,H1,I2,q1⟩) hf
end
structure It where
 go:Nat->Hp->Prop
 yld:Nat->Hp->V->Hp->Prop
 stop:Nat->Hp->Prop
def FpOk (X:Cx) (U:List (Addr×Obj)) (H:Hp) (b:Addr):Prop :=
 H b=none/\b≠X.env.locals/\b∉X.fs/\(b∈X.ex\/X.s₀.heap.objs.size<=b)/\(∀ x c,X.env.cells.lookup x=some c->c≠b)/\∀ p∈X.pn++U,p.1≠b
theorem Inv.fpOk {X:Cx}{U:List (Addr×Obj)}{Y:St}{H H':Hp}{s:Shared}{b:Addr} (I:Inv X U Y H s) (hb:s.heap.objs.size<=b) (hn:H' b=none):FpOk X U H' b:=by
 refine ⟨hn,ne_of_gt (lt_of_lt_of_le I.lt hb),I.nofs hb,.inr (le_trans I.sz hb),λx c e z=>?_,λp hp z=>?_⟩
 ·obtain ⟨v,q⟩:=I.cell x c e
  exact absurd (lt_of_lt_of_le q.lt (by rw [z];exact hb)) (lt_irrefl _)
 ·exact absurd (lt_of_lt_of_le (lt_size (I.pin p hp).1) (by rw [z];exact hb)) (lt_irrefl _)
structure Turn (P:Program) (w:World) (K:PySem.W.Frag) (tg:Expr) (J:It) (fp:List Addr) (it:Addr) (tn:Nat->Heap->Prop):Prop where
 mem:it∈fp
 obj:∀ i h,tn i h->∀ b∈fp,∃ o,h.get? b=some o/\∀ v,o.data≠.cell v
 keep:∀ i h h',tn i h->(∀ b∈fp,∀ o,h.get? b=some o->h'.get? b=some o)->tn i h'
 item:∀ (X:Cx),X.prog=P->X.w=w->X.K=K->X.calm=true->∀ (i:Nat) (U:List (Addr×Obj)) (s:Shared) (Y:St) (H:Hp) (E:Value->Shared->Prop),Inv X U Y H s->(∀ b∈fp,FpOk X U H b)->tn i s.heap->J.go i H →
  wpAny (model P w) X.A (pyNext (.ref it)) (λr s1=>∃ u,r=some u ∧
   wpAny (model P w) X.A (letOwnedTupleGo tg (.ref it) u) (λ_ s2=>∃ x H',Inv X U Y H' s2/\RelV x u/\J.yld i H x H'/\tn (i+1) s2.heap/\∀ b∈fp,H' b=none) E s1) E s
 done:∀ (X:Cx),X.prog=P->X.w=w->X.K=K->X.calm=true->∀ (i:Nat) (U:List (Addr×Obj)) (s:Shared) (Y:St) (H:Hp) (E:Value->Shared->Prop),Inv X U Y H s->(∀ b∈fp,FpOk X U H b)->tn i s.heap->J.stop i H →
  wpAny (model P w) X.A (pyNext (.ref it)) (λr s1=>r=none/\Inv X U Y H s1) E s
 self:∀ (A:Around) (i:Nat) (s:Shared) (Q:Value->Shared->Prop) (E:Value->Shared->Prop),tn i s.heap->Q (.ref it) s->wpAny (model P w) A (pyIter (.ref it)) Q E s
abbrev TI:=St->Hp->(It->Hp->Prop)->Prop
def PIE (X:Cx) (U:List (Addr×Obj)) (Y:St) (tg:Expr) (R:It->Hp->Prop) (gJ:Value) (s2:Shared):Prop :=
 ∃ (it:Addr) (fp:List Addr) (tn:Nat->Heap->Prop) (J:It) (H':Hp),gJ=.ref it/\Inv X U Y H' s2/\Turn X.prog X.w X.K tg J fp it tn/\tn 0 s2.heap/\(∀ b∈fp,FpOk X U H' b)/\R J H'
def PI (X:Cx) (tg iter:Expr) (wi:TI):Prop :=
 ∀ (U:List (Addr×Obj)) (s:Shared) (Y:St) (H:Hp) (R:It->Hp->Prop),Inv X U Y H s->wi Y H R →
  wpAny (model X.prog X.w) X.A (eval iter X.env) (λv s1=>wpAny (model X.prog X.w) X.A (pyIter v) (PIE X U Y tg R) X.xe s1) X.xe s
theorem uX {M:Model}{A:Around}{E:Value->Shared->Prop}{s:Shared}{tg:Expr}{it:Addr}{u:Value}{o:Obj}{n:String}{vs:Array Value}{Q:Unit->Shared->Prop} (ho:s.heap.get? it=some o) (hc:o.cls=.type n) (hd:o.data=.fields vs)
  (hn:["enumerate", "zip", "dict_itemiterator", "dict_reverseitemiterator", "odict_iterator", "itertools.zip_longest", "itertools.pairwise"].contains n=false) (hQ:Q () s):wpAny M A (letOwnedTupleGo tg (.ref it) u) Q E s:=by
 unfold letOwnedTupleGo
 cases tg<;>first
  | exact wpAny_pure hQ
  | (cases u<;>first
    | exact wpAny_pure hQ
    | (refine wpAny_bind (wpAny_load ho ?_)
       rw [hc,hd]
       show wpAny M A (if (["enumerate", "zip", "dict_itemiterator", "dict_reverseitemiterator", "odict_iterator", "itertools.zip_longest", "itertools.pairwise"].contains n&&vs[0]? == some (rawInt _))=true then _ else _) Q E s
       rw [if_neg (by intro h;rw [hn,Bool.false_and] at h;cases h)]
       exact wpAny_pure hQ))
noncomputable def Itl (K:PySem.W.Frag) (a:Addr):It :=
 ⟨λi H=>∃ xs x,SqL K H a xs/\xs[i]?=some x,λi H x H'=>H'=H/\∀ xs,SqL K H a xs->xs[i]?=some x,λi H=>∃ xs,SqL K H a xs/\xs.length<=i⟩
noncomputable def Itt (K:PySem.W.Frag) (a:Addr):It :=
 ⟨λi H=>∃ xs x,SqT K H a xs/\xs[i]?=some x,λi H x H'=>H'=H/\∀ xs,SqT K H a xs->xs[i]?=some x,λi H=>∃ xs,SqT K H a xs/\xs.length<=i⟩
noncomputable def Itr (lo:Int) (n:Nat):It:=⟨λi _=>i < n,λi H x H'=>H'=H/\x=.int (lo+i),λi _=>n<=i⟩
theorem DS {P:Program}{w:World}{K:PySem.W.Frag}{tg:Expr} (a it:Addr):Turn P w K tg (Itl K a) [it] it (λi h=>h.IsListIter it a i) where
 mem:=by simp
 obj:=λi h st b hb=>by
  have e:b=it:=by simpa using hb
  subst e
  obtain ⟨o,e,c,d⟩:=st
  exact ⟨o,e,λv z=>by rw [d] at z;cases z⟩
 keep:=λi h h' st k=>st.at λo e=>k it (by simp) o e
 item:=by
  intro X hP hw hK hc i U s Y H E I hf st hg
  subst hP hw hK
  obtain ⟨xs,x,hq,hx⟩:=hg
  obtain ⟨ac,rv,p,hz⟩:=I.list hq
  obtain ⟨u,hu,ru⟩:=rv.get hx
  obtain ⟨f0,f1,f2,f3,f4,f5⟩:=hf it (by simp)
  refine wpAny_pyNext_list_item st p.isList (x:=u) (by simpa using hu) λh' cS sb=>?_
  have I1:Inv X U Y H { s with heap:=h' }:=I.turned (t':=s.toks) (λb o hb e=>(sb.2 b hb).trans e) f0 f1 f3 f4 f5
  obtain ⟨o,e,c,d⟩:=id cS
  exact ⟨u,rfl,uX (s:={ s with heap:=h' }) e c d (by decide) ⟨x,H,I1,ru,⟨rfl,λys hy=>by rw [I.list_inj hy hq];exact hx⟩,cS,λb hb=>(hf b hb).1⟩⟩
 done:=by
  intro X hP hw hK hc i U s Y H E I hf st hg
  subst hP hw hK
  obtain ⟨xs,hq,hx⟩:=hg
  obtain ⟨ac,rv,p,hz⟩:=I.list hq
  obtain ⟨f0,f1,f2,f3,f4,f5⟩:=hf it (by simp)
  have hl:=rv.length
  exact wpAny_pyNext_list_end (I.ok.hd hc) st p.isList (by simp;omega) λh' eb=>⟨rfl,I.turned (t':=s.toks) (λb o hb e=>eb b o hb e) f0 f1 f3 f4 f5⟩
 self:=λ_ _ _ _ _ st h=>wpAny_pyIter_listiter st h
theorem Ju {P:Program}{w:World}{K:PySem.W.Frag}{tg:Expr} (a it:Addr):Turn P w K tg (Itt K a) [it] it (λi h=>h.IsTupleIter it a i) where
 mem:=by simp
 obj:=λi h st b hb=>by
  have e:b=it:=by simpa using hb
  subst e
  obtain ⟨o,e,c,d⟩:=st
  exact ⟨o,e,λv z=>by rw [d] at z;cases z⟩
 keep:=λi h h' st k=>st.at λo e=>k it (by simp) o e
 item:=by
  intro X hP hw hK hc i U s Y H E I hf st hg
  subst hP hw hK
  obtain ⟨xs,x,hq,hx⟩:=hg
  obtain ⟨ac,rv,p,hz⟩:=I.tuple hq
  obtain ⟨u,hu,ru⟩:=rv.get hx
  obtain ⟨f0,f1,f2,f3,f4,f5⟩:=hf it (by simp)
  refine wpAny_pyNext_tuple_item st (show s.heap.IsTuple a ac.toArray from p) (x:=u) (by simpa using hu) λh' cS sb=>?_
  have I1:Inv X U Y H { s with heap:=h' }:=I.turned (t':=s.toks) (λb o hb e=>(sb.2 b hb).trans e) f0 f1 f3 f4 f5
  obtain ⟨o,e,c,d⟩:=id cS
  exact ⟨u,rfl,uX (s:={ s with heap:=h' }) e c d (by decide) ⟨x,H,I1,ru,⟨rfl,λys hy=>by rw [I.tuple_inj hy hq];exact hx⟩,cS,λb hb=>(hf b hb).1⟩⟩
 done:=by
  intro X hP hw hK hc i U s Y H E I hf st hg
  subst hP hw hK
  obtain ⟨xs,hq,hx⟩:=hg
  obtain ⟨ac,rv,p,hz⟩:=I.tuple hq
  obtain ⟨f0,f1,f2,f3,f4,f5⟩:=hf it (by simp)
  have hl:=rv.length
  exact wpAny_pyNext_tuple_end (I.ok.hd hc) st (show s.heap.IsTuple a ac.toArray from p) (by simp;omega) λh' eb=>⟨rfl,I.turned (t':=s.toks) (λb o hb e=>eb b o hb e) f0 f1 f3 f4 f5⟩
 self:=λ_ _ _ _ _ st h=>wpAny_pyIter_tupleiter st h
theorem Km {P:Program}{w:World}{K:PySem.W.Frag}{tg:Expr} (it:Addr) (lo:Int) (n:Nat):Turn P w K tg (Itr lo n) [it] it (λi h=>IsRangeIter h it (lo+(i:Nat)*1) ((n:Int) - (i:Nat)) 1) where
 mem:=by simp
 obj:=λi h st b hb=>by
  have e:b=it:=by simpa using hb
  subst e
  exact ⟨_,st,λv z=>by
   have z':Data.fields _=Data.cell v:=z
   cases z'⟩
 keep:=λi h h' st k=>k it (by simp) _ st
 item:=by
  intro X hP hw hK hc i U s Y H E I hf st hg
  subst hP hw hK
  obtain ⟨f0,f1,f2,f3,f4,f5⟩:=hf it (by simp)
  have W:=Walks.range (prog:=X.prog) (w:=X.w) (I.ok.hd hc) it lo 1 n
  refine W.item i s _ _ hg st λv h' tk hv cS kk=>?_
  obtain ⟨t,rfl⟩:=hv
  have I1:Inv X U Y H { s with heap:=h',toks:=tk }:=I.turned (λb o hb e=>kk b o (by simpa using hb) e) f0 f1 f3 f4 f5
  refine ⟨_,rfl,uX (s:={ s with heap:=h',toks:=tk }) (n := "range_iterator") cS rfl rfl (by decide) ⟨.int (lo+i),H,I1,⟨t,?_⟩,⟨rfl,rfl⟩,cS,λb hb=>(hf b hb).1⟩⟩
  rw [Int.mul_one]
 done:=by
  intro X hP hw hK hc i U s Y H E I hf st hg
  subst hP hw hK
  obtain ⟨f0,f1,f2,f3,f4,f5⟩:=hf it (by simp)
  exact wpAny_pyNext_range_end (I.ok.hd hc) st (by have:n<=i:=hg;omega) λh' eb=>⟨rfl,I.turned (t':=s.toks) (λb o hb e=>eb b o hb e) f0 f1 f3 f4 f5⟩
 self:=λ_ _ _ _ _ st h=>wpAny_pyIter_rangeiter st h
section
variable {X:Cx}{tg:Expr}
theorem CK {U:List (Addr×Obj)}{Y:St}{H:Hp}{s:Shared}{R:It->Hp->Prop}{E:Value->Shared->Prop}{lo hi:Int}{t u v:Tok}{tk:Nat} (I:Inv X U Y H s) (h1:-(2 ^ 62)<=lo) (h2:lo < 2 ^ 62) (h3:-(2 ^ 62)<=hi) (h4:hi < 2 ^ 62)
  (q:R (Itr lo (hi - lo).toNat) H):wpAny (model X.prog X.w) X.A (pyIter (.ref s.heap.objs.size)) (PIE X U Y tg R) E { s with heap:=s.heap.push { cls:=.type "range", data:=.fields #[.int lo t,.int hi u,.int 1 v] },toks:=tk }:=by
 refine wpAny_pyIter_range (IsRange.new ..) (small_one h1 h2 h3 h4) ?_
 have I1:Inv X U Y H { s with heap:=s.heap.push { cls:=.type "range", data:=.fields #[.int lo t,.int hi u,.int 1 v] },toks:=tk }:=I.kept λb o e=>get?_push_of_some _ e
 refine ⟨(s.heap.push { cls:=.type "range", data:=.fields #[.int lo t,.int hi u,.int 1 v] }).objs.size,[(s.heap.push { cls:=.type "range", data:=.fields #[.int lo t,.int hi u,.int 1 v] }).objs.size],_,_,H,rfl,
  I1.kept (t':=tk) λb o e=>get?_push_of_some _ e,Km _ lo (hi - lo).toNat,?_,λb hb=>?_,q⟩
 ·have e1:lo+((0:Nat):Int)*1=lo:=by simp
  have e2:(((hi - lo).toNat:Nat):Int) - ((0:Nat):Int)=rangeSize lo hi 1:=by rw [rangeSize_one];split<;>omega
  show IsRangeIter _ _ (lo+((0:Nat):Int)*1) ((((hi - lo).toNat:Nat):Int) - ((0:Nat):Int)) 1
  rw [e1,e2]
  exact get?_push_size _ rfl
 ·have e:b=(s.heap.push { cls:=.type "range", data:=.fields #[.int lo t,.int hi u,.int 1 v] }).objs.size:=by simpa using hb
  subst e
  exact I1.fpOk (le_refl _) (I1.hok.fresh (le_refl _))
noncomputable def iRng1 (ta:TA):TI:=λY H R=>ta Y H λvs H1=>∃ j:Int,vs=[.int j]/\-(2 ^ 62)<=j/\j < 2 ^ 62/\R (Itr 0 j.toNat) H1
noncomputable def iRng2 (ta:TA):TI:=λY H R=>ta Y H λvs H1=>∃ i j:Int,vs=[.int i,.int j]/\(-(2 ^ 62)<=i/\i < 2 ^ 62/\-(2 ^ 62)<=j/\j < 2 ^ 62)/\R (Itr i (j - i).toNat) H1
theorem Gd {a:Expr}{ta:TA}{p pos:Pos} (hg:Gl X "range") (hm:X.mg "range"=none) (ha:PA X [a] ta) (hs:starEach [a] X.env=[(false,eval a X.env)]:=by rfl):PI X tg (.Call (.Name "range" p) [a] [] pos) (iRng1 ta):=by
 intro U s Y H R I h
 refine Call_ (rR I hg hm boot_range (PyProof.Rows.callWith_type1 (thn (ha pos U s Y H _ I h) λus s1 ⟨vs,H1,I1,r1,q1⟩=>?_) hs rfl))
 obtain ⟨j,e,q1,q2,q⟩:=q1
 subst e
 cases r1 with
 | cons r rr =>
  cases rr
  obtain ⟨t,rfl⟩:=r
  exact call_range_1 (CK I1 (by omega) (by omega) q1 q2 (by simpa using q))
theorem K4 {a b:Expr}{ta:TA}{p pos:Pos} (hg:Gl X "range") (hm:X.mg "range"=none) (ha:PA X [a,b] ta) (hs:starEach [a,b] X.env=[(false,eval a X.env),(false,eval b X.env)]:=by rfl) (gK:starEach [b] X.env=[(false,eval b X.env)]:=by rfl) :
  PI X tg (.Call (.Name "range" p) [a,b] [] pos) (iRng2 ta):=by
 intro U s Y H R I h
 refine Call_ (rR I hg hm boot_range (PyProof.Rows.callWith_type1 (thn (ha pos U s Y H _ I h) λus s1 ⟨vs,H1,I1,r1,q1⟩=>?_) (by rw [hs,gK]) (by rw [gK];rfl)))
 obtain ⟨i,j,e,⟨q1,q2,q3,q4⟩,q⟩:=q1
 subst e
 cases r1 with
 | cons r rr =>
  cases rr with
  | cons r' rr =>
   cases rr
   obtain ⟨t,rfl⟩:=r
   obtain ⟨t',rfl⟩:=r'
   exact call_range_2 (CK I1 q1 q2 q3 q4 q)
noncomputable def tFor (wi:TI) (g:TG) (tb:TS):TS:=λD Y H=>wi Y H λJ H1=>∃ W:Nat->Nat->St->Hp->Prop,(∃ m,W 0 m Y H1)/\∀ i m Y H,W i m Y H →
 (J.stop i H/\D.nx Y H)\/(J.go i H/\∃ N:St->Hp->Prop,(∀ ai H',N ai H'->∃ m',m' < m/\W (i+1) m' ai H')/\∀ x H',J.yld i H x H'->g x Y H' λaJ H2=>tb { D with nx:=N,ct:=N,bk:=D.nx } aJ H2)
noncomputable def pinsAt (fp:List Addr) (h:Heap):List (Addr×Obj):=fp.filterMap λb=>(h.get? b).map λo=>(b,o)
theorem vY {fp:List Addr}{h:Heap}{b:Addr}{o:Obj} (hb:b∈fp) (e:h.get? b=some o):(b,o)∈pinsAt fp h:=mem_filterMap.mpr ⟨b,hb,by rw [e];rfl⟩
theorem Ej {fp:List Addr}{h:Heap}{p:Addr×Obj} (hp:p∈pinsAt fp h):p.1∈fp/\h.get? p.1=some p.2:=by
 obtain ⟨b,hb,e⟩:=mem_filterMap.mp hp
 cases q:h.get? b with
 | none=>rw [q] at e;cases e
 | some o =>
  rw [q] at e
  have e':(b,o)=p:=Option.some.inj e
  subst e'
  exact ⟨hb,q⟩
theorem Inv.pinned {U:List (Addr×Obj)}{Y:St}{H:Hp}{s:Shared}{fp:List Addr} (I:Inv X U Y H s) (hf:∀ b∈fp,FpOk X U H b) (ho:∀ b∈fp,∃ o,s.heap.get? b=some o/\∀ v,o.data≠.cell v):Inv X (U++pinsAt fp s.heap) Y H s :=
 I.pins_of λp hp=>(mem_append.mp hp).elim (λz=>I.pin p (mem_append_right _ z)) λz=>by
  obtain ⟨hb,e⟩:=Ej z
  obtain ⟨f0,f1,f2,_⟩:=hf p.1 hb
  obtain ⟨o,e',d⟩:=ho p.1 hb
  rw [e] at e';cases e'
  exact ⟨e,f0,f1,f2,d⟩
theorem Inv.unpinned {U pl:List (Addr×Obj)}{Y:St}{H:Hp}{s:Shared} (I:Inv X (U++pl) Y H s):Inv X U Y H s:=I.pins_of λp hp=>I.pin p (mem_append_right _ (mem_append_left _ hp))
theorem G' {iter:Expr}{body:List Stmt}{wi:TI}{g:TG}{tb:TS}{pos:Pos} (hp:PassesOwn (model X.prog X.w) X.A X.env X.xe) (hc:X.calm=true) (hi:PI X tg iter wi) (hg:PG X tg g) (hb:PSs X body tb)
  (hs:∀ x,foldedSetIterable iter X.env x=pure x:=by intro _;rfl):PS X (.For tg iter body [] pos) (tFor wi g tb):=by
 intro U s Y H D I h
 refine wpAny_For (thn (hi U s Y H _ I h) λv s1 h1=>thn h1 λgJ s2 h2=>?_) hs
 obtain ⟨it,fp,tn,J,H2,e,I2,T,dQ,f2,W,⟨m0,w0⟩,turn⟩:=h2
 subst e
 -- what stays true of the iterator's objects through the fD
 have cT:∀ {H':Hp},(∀ b∈fp,H' b=none)->∀ b∈fp,FpOk X U H' b:=λhn b hb=>⟨hn b hb,(f2 b hb).2⟩
 refine codeAny_forLoop_any (λn s'=>∃ i ai H',Inv X U ai H' s'/\tn i s'.heap/\(∀ b∈fp,H' b=none)/\W i n ai H') ?_ m0 ⟨0,Y,H2,I2,dQ,λb hb=>(f2 b hb).1,w0⟩
 rintro n s3 ⟨i,fE,H3,I3,fe,kh,w3⟩
 rcases turn i n fE H3 w3 with ⟨stop,qn⟩ | ⟨go,N,hN,step⟩
 ·refine wpAny_passesOwn hp (thn (T.done X rfl rfl rfl hc i U s3 fE H3 X.xe I3 (cT kh) fe stop) λr s4 ⟨hr,I4⟩=>?_)
  subst hr
  exact wpAny_execs_nil ⟨fE,H3,I4,qn⟩
 ·refine wpAny_passesOwn hp (thn (T.item X rfl rfl rfl hc i U s3 fE H3 X.xe I3 (cT kh) fe go) λr s4 ⟨u,hr,h4⟩=>?_)
  subst hr
  refine wpAny_passesOwn hp (thn h4 λ_ s5 ⟨x,H5,I5,r5,y5,ff,gL⟩=>?_)
  have mq:=I5.pinned (cT gL) (T.obj _ _ ff)
  refine wpAny_passesOwn hp (thn (hg _ s5 fE H5 x u _ mq r5 (step x H5 y5)) λ_ s6 ⟨mr,H6,I6,q6⟩=>?_)
  refine wpAny_passesOwn hp (thn (hb _ s6 mr H6 _ I6 q6) λf s7 q7=>?_)
  have again:∀ {cU:St}{H7:Hp},Inv X (U++pinsAt fp s5.heap) cU H7 s7->N cU H7->∃ m,m < n/\∃ i ai H',Inv X U ai H' s7/\tn i s7.heap/\(∀ b∈fp,H' b=none)/\W i m ai H':=λ{cU H7} I7 n7=>by
   obtain ⟨m',hm,w7⟩:=hN cU H7 n7
   refine ⟨m',hm,i+1,cU,H7,I7.unpinned,T.keep _ _ _ ff λb hb o e=>(I7.pin (b,o) (mem_append_right _ (mem_append_right _ (vY hb e)))).1,λb hb=>?_,w7⟩
   obtain ⟨o,e,d⟩:=T.obj _ _ ff b hb
   exact (I7.pin (b,o) (mem_append_right _ (mem_append_right _ (vY hb e)))).2.1
  cases f with
  | next=>obtain ⟨cU,H7,I7,n7⟩:=q7;exact again I7 n7
  | cont=>obtain ⟨cU,H7,I7,n7⟩:=q7;exact again I7 n7
  | brk=>obtain ⟨cU,H7,I7,q7⟩:=q7;exact ⟨cU,H7,I7.unpinned,q7⟩
  | ret v=>obtain ⟨x7,cU,H7,I7,r7,q7⟩:=q7;exact ⟨x7,cU,H7,I7.unpinned,r7,q7⟩
end
abbrev R2:=V->V->Hp->VK->Prop
def OpR (X:Cx) (f:Value->Value->Sem Value) (r:R2):Prop :=
 ∀ (U:List (Addr×Obj)) (s:Shared) (Y:St) (H:Hp) (x y:V) (v u:Value) (Q:VK),Inv X U Y H s->RelV x v->RelV y u->r x y H Q →
  wpAny (model X.prog X.w) X.A (f v u) (EP X U Y Q) X.xe s
def CallR (X:Cx) (f:Value) (r:List V->Hp->VK->Prop):Prop :=
 ∀ (U:List (Addr×Obj)) (s:Shared) (Y:St) (H:Hp) (xs:List V) (us:List Value) (Q:VK),Inv X U Y H s->Vals xs us->r xs H Q →
  wpAny (model X.prog X.w) X.A (call f us) (EP X U Y Q) X.xe s
noncomputable def tOp (r:R2) (ta tb:TE):TE:=λY H Q=>ta Y H λx H1=>tb Y H1 λy H2=>r x y H2 Q
noncomputable def rI (C:Int->Int->Prop) (g:Int->Int->V):R2:=λx y H Q=>∃ i j,x=.int i/\y=.int j/\C i j/\Q (g i j) H
noncomputable def rI0 (g:Int->Int->V):R2:=λx y H Q=>∃ i j,x=.int i/\y=.int j/\Q (g i j) H
section
variable {X:Cx}{a b c:Expr}{ta tb tc:TE}{pos:Pos}
theorem binT (ha:PE X a ta) (hb:PE X b tb){U:List (Addr×Obj)}{s:Shared}{Y:St}{H:Hp}{R:V->V->Hp->Prop} (I:Inv X U Y H s)
  (h:ta Y H λx H1=>tb Y H1 λy H2=>R x y H2){Q:Value->Shared->Prop}{f:Value->Value->Sem Value}
  (hf:∀ v u s2 x y H2,Inv X U Y H2 s2->RelV x v->RelV y u->R x y H2->wpAny (model X.prog X.w) X.A (f v u) Q X.xe s2) :
  wpAny (model X.prog X.w) X.A (eval a X.env) (λv aq=>wpAny (model X.prog X.w) X.A (eval b X.env) (λu cg=>wpAny (model X.prog X.w) X.A (f v u) Q X.xe cg) X.xe aq) X.xe s:=by
 refine thn (ha U s Y H _ I h) λv s1 ⟨x,H1,I1,r1,q1⟩=>?_
 refine thn (hb U s1 Y H1 _ I1 q1) λu s2 ⟨y,H2,I2,r2,q2⟩=>?_
 exact hf v u s2 x y H2 I2 r1 r2 q2
theorem BY {op:Operator}{r:R2} (ho:OpR X (binaryOp op) r) (ha:PE X a ta) (hb:PE X b tb):PE X (.BinOp a op b pos) (tOp r ta tb):=by
 intro U s Y H Q I h
 exact wpAny_BinOp (binT ha hb I h λv u s2 x y H2 I2 rx ry q=>ho U s2 Y H2 x y v u Q I2 rx ry q)
theorem opI {f:Value->Value->Sem Value}{C:Int->Int->Prop}{g:Int->Int->Int}
  (rule:∀ (i j:Int) (t u:Tok) (s:Shared) (Q:Value->Shared->Prop) (E:Value->Shared->Prop),C i j->Q (.int (g i j) s.toks) { s with toks:=s.toks+1 }->wpAny (model X.prog X.w) X.A (f (.int i t) (.int j u)) Q E s) :
  OpR X f (rI C λi j=>.int (g i j)):=by
 intro U s Y H x y v u Q I rx ry h
 obtain ⟨i,j,rfl,rfl,hc,q⟩:=h
 obtain ⟨t,rfl⟩:=rx
 obtain ⟨t',rfl⟩:=ry
 exact rule i j t t' s _ _ hc ⟨.int (g i j),H,I.tok _,⟨_,rfl⟩,q⟩
theorem opI0 {f:Value->Value->Sem Value}{g:Int->Int->Int}
  (rule:∀ (i j:Int) (t u:Tok) (s:Shared) (Q:Value->Shared->Prop) (E:Value->Shared->Prop),Q (.int (g i j) s.toks) { s with toks:=s.toks+1 }->wpAny (model X.prog X.w) X.A (f (.int i t) (.int j u)) Q E s) :
  OpR X f (rI0 λi j=>.int (g i j)):=by
 intro U s Y H x y v u Q I rx ry h
 obtain ⟨i,j,rfl,rfl,q⟩:=h
 obtain ⟨t,rfl⟩:=rx
 obtain ⟨t',rfl⟩:=ry
 exact rule i j t t' s _ _ ⟨.int (g i j),H,I.tok _,⟨_,rfl⟩,q⟩
theorem opB0 {f:Value->Value->Sem Value}{g:Int->Int->Bool}
  (rule:∀ (i j:Int) (t u:Tok) (s:Shared) (Q:Value->Shared->Prop) (E:Value->Shared->Prop),Q (.bool (g i j)) s->wpAny (model X.prog X.w) X.A (f (.int i t) (.int j u)) Q E s) :
  OpR X f (rI0 λi j=>.bl (g i j)):=by
 intro U s Y H x y v u Q I rx ry h
 obtain ⟨i,j,rfl,rfl,q⟩:=h
 obtain ⟨t,rfl⟩:=rx
 obtain ⟨t',rfl⟩:=ry
 exact rule i j t t' s _ _ ⟨.bl (g i j),H,I,rfl,q⟩
def CPow (i j:Int):Prop:=0<=j/\j<=1000000/\i.natAbs < 2 ^ 64
def CMul (i j:Int):Prop:=(-(2 ^ 64) < i/\i < 2 ^ 64)\/(-(2 ^ 64) < j/\j < 2 ^ 64)
theorem CMul.ok {i j:Int} (h:CMul i j):IntMulOk i j:=by
 rcases h with ⟨h1,h2⟩ | ⟨h1,h2⟩
 ·exact .of_left (intBits_le_64 h1 h2)
 ·exact .of_right (intBits_le_64 h1 h2)
theorem KC:OpR X (binaryOp .Add) (rI0 λi j=>.int (i+j)):=opI0 λ_ _ _ _ _ _ _ q=>add_int q
theorem E9:OpR X (binaryOp .Sub) (rI0 λi j=>.int (i - j)):=opI0 λ_ _ _ _ _ _ _ q=>sub_int q
theorem Fy:OpR X (binaryOp .Mult) (rI CMul λi j=>.int (i*j)):=opI λ_ _ _ _ _ _ _ hc q=>mul_int q hc.ok
theorem ER:OpR X (binaryOp .Mod) (rI (λ_ j=>0 < j) λi j=>.int (i % j)):=opI λi j _ _ _ _ _ hc q=>by
 have h1:(0:Int) < j:=hc
 exact mod_int' (by omega) (by rw [Int.fmod_eq_emod_of_nonneg i (by omega)];exact q)
theorem IM:OpR X (binaryOp .Pow) (rI CPow λi j=>.int (i ^ j.toNat)):=opI λ_ _ _ _ _ _ _ hc q=>pow_int_small hc.1 hc.2.1 hc.2.2 q
end
section
variable {X:Cx}{a b c:Expr}{ta tb tc:TE}{pos:Pos}
theorem Bq {U:List (Addr×Obj)}{Y:St}{H:Hp}{s:Shared}{Q:VK}{k k':Bool} (I:Inv X U Y H s) (q:Q (.bl k) H) (e:k=k'):EP X U Y Q (.bool k') s:=by
 subst e
 exact ⟨.bl k,H,I,rfl,q⟩
theorem uU:OpR X (compareOp .Lt) (rI0 λi j=>.bl (decide (i < j))):=opB0 λ_ _ _ _ _ _ _ q=>lt_int q
theorem se:OpR X (compareOp .LtE) (rI0 λi j=>.bl (decide (i<=j))):=opB0 λ_ _ _ _ _ _ _ q=>le_int q
theorem Hr:OpR X (compareOp .GtE) (rI0 λi j=>.bl (decide (j<=i))):=opB0 λ_ _ _ _ _ _ _ q=>ge_int q
theorem Ku:OpR X (compareOp .IsNot) (λx y H Q=>y=.non/\Q (.bl (!decide (x=.non))) H):=by
 intro U s Y H x y v u Q I rx ry h
 obtain ⟨rfl,q⟩:=h
 cases ry
 refine isnot_none_gen (Bq I q ?_)
 cases x<;>first
  | (cases rx;rfl)
  | (obtain ⟨t,rfl⟩:=rx;rfl)
theorem OpR.or {f:Value->Value->Sem Value}{r r':R2} (h:OpR X f r) (h':OpR X f r'):OpR X f (λx y H Q=>r x y H Q\/r' x y H Q):=by
 intro U s Y H x y v u Q I rx ry q
 rcases q with q | q
 ·exact h U s Y H x y v u Q I rx ry q
 ·exact h' U s Y H x y v u Q I rx ry q
theorem nomark (b:Expr){op:CmpOp} (h:op≠.In:=by decide) (h2:op≠.NotIn:=by decide):behindInMarks op b=false:=by
 have e1:(op == CmpOp.In)=false:=by cases op<;>first | rfl | exact absurd rfl h
 have e2:(op == CmpOp.NotIn)=false:=by cases op<;>first | rfl | exact absurd rfl h2
 cases b<;>simp [behindInMarks,e1,e2]
theorem Jg {op:CmpOp}{r:R2} (ho:OpR X (compareOp op) r) (ha:PE X a ta) (hb:PE X b tb) (hm:behindInMarks op b=false):PE X (.Compare a [op] [b] pos) (tOp r ta tb):=by
 intro U s Y H Q I h
 exact wpAny_Compare1 (binT ha hb I h λv u s2 x y H2 I2 rx ry q=>ho U s2 Y H2 x y v u Q I2 rx ry q) hm
noncomputable def tTest (t:TE):TT:=λY H Q=>t Y H λx H'=>∃ k,x=.bl k/\Q k H'
theorem DQ {op:CmpOp}{r:R2} (ho:OpR X (compareOp op) r) (ha:PE X a ta) (hb:PE X b tb) (hm:behindInMarks op b=false):PT X (.Compare a [op] [b] pos) (tTest (tOp r ta tb)):=by
 intro U s Y H Q I h
 refine wpAny_isTrue_Compare1 (thn (ha U s Y H _ I h) λv s1 ⟨x,H1,I1,r1,q1⟩=>thn (hb U s1 Y H1 _ I1 q1) λu s2 ⟨y,H2,I2,r2,q2⟩ =>
  thn (ho U s2 Y H2 x y v u _ I2 r1 r2 q2) λc s3 ⟨z,H3,I3,r3,k,e,q3⟩=>?_) hm
 subst e
 cases r3
 exact wpAny_truthy_bool ⟨H3,I3,q3⟩
noncomputable def tChain (r r':R2) (ta tb tc:TE):TE:=λY H Q=>ta Y H λx H1=>tb Y H1 λy H2=>r x y H2 λz H3=>∃ k,z=.bl k ∧
 (if k=true then tc Y H3 λw' H4=>r' y w' H4 Q else Q (.bl false) H3)
theorem DR {op bA:CmpOp}{r r':R2} (ho:OpR X (compareOp op) r) (bN:OpR X (compareOp bA) r') (ha:PE X a ta) (hb:PE X b tb) (hc:PE X c tc)
  (hm:lastMarks [op,bA] [b,c]=false:=by with_unfolding_all rfl):PE X (.Compare a [op,bA] [b,c] pos) (tChain r r' ta tb tc):=by
 intro U s Y H Q I h
 refine Compare_chain (thn (ha U s Y H _ I h) λv s1 ⟨x,H1,I1,r1,q1⟩=>chain_link (thn (hb U s1 Y H1 _ I1 q1) λu s2 ⟨y,H2,I2,r2,q2⟩ =>
  thn (ho U s2 Y H2 x y v u _ I2 r1 r2 q2) λd s3 ⟨z,H3,I3,r3,k,e,q3⟩=>?_)) hm
 subst e
 cases r3
 refine wpAny_truthy_bool ?_
 cases k with
 | false=>exact ite_ff ⟨.bl false,H3,I3,rfl,q3⟩
 | true=>exact ite_tt (chain_last (thn (hc U s3 Y H3 _ I3 q3) λw' s4 ⟨z',H4,I4,r4,q4⟩=>bN U s4 Y H4 y z' u w' Q I4 r2 r4 q4))
theorem Da {op bA:CmpOp}{r r':R2} (ho:OpR X (compareOp op) r) (bN:OpR X (compareOp bA) r') (ha:PE X a ta) (hb:PE X b tb) (hc:PE X c tc)
  (hm:lastMarks [op,bA] [b,c]=false:=by with_unfolding_all rfl):PT X (.Compare a [op,bA] [b,c] pos) (tTest (tChain r r' ta tb tc)):=by
 intro U s Y H Q I h
 refine isTrue_chain (thn (ha U s Y H _ I h) λv s1 ⟨x,H1,I1,r1,q1⟩=>test_link (thn (hb U s1 Y H1 _ I1 q1) λu s2 ⟨y,H2,I2,r2,q2⟩ =>
  thn (ho U s2 Y H2 x y v u _ I2 r1 r2 q2) λd s3 ⟨z,H3,I3,r3,k,e,q3⟩=>?_)) hm
 subst e
 cases r3
 refine wpAny_truthy_bool ?_
 cases k with
 | false =>
  obtain ⟨k',e',q'⟩:=q3
  cases e'
  exact ite_ff ⟨H3,I3,q'⟩
 | true =>
  refine ite_tt (test_last (thn (hc U s3 Y H3 _ I3 q3) λw' s4 ⟨z',H4,I4,r4,q4⟩=>thn (bN U s4 Y H4 y z' u w' _ I4 r2 r4 q4) λd' s5 ⟨z2,H5,I5,r5,k2,e2,q5⟩=>?_))
  subst e2
  cases r5
  exact wpAny_truthy_bool ⟨H5,I5,q5⟩
theorem line63:(sizeLine:Nat) < 2 ^ 63:=by rw [sizeLine_eq];decide
theorem Dq:OpR X (binaryOp .Add) (λx y H Q=>∃ i j,x=.str i/\y=.str j/\i.length+j.length<=sizeLine/\Q (.str (i++j)) H):=by
 intro U s Y H x y v u Q I rx ry h
 obtain ⟨i,j,rfl,rfl,hz,q⟩:=h
 obtain ⟨t,rfl⟩:=rx
 obtain ⟨t',rfl⟩:=ry
 exact add_str (λt' tk=>⟨.str (i++j),H,I.tok _,⟨_,rfl⟩,q⟩) hz
def PlainIxT (b:Expr):Prop:=∀ o i,subscripted b false o i=operate [o,i] (getItem o i)
theorem KJ (ha:PE X a ta) (hb:PE X b tb) (hs:PlainIxT b) :
  PE X (.Subscript a b pos) (tOp (λx y H Q=>∃ z i c,x=.str z/\y=.int i/\0<=i/\i < 2 ^ 63/\i < z.length/\z.cps[i.toNat]?=some c/\Q (.str ⟨#[c]⟩) H) ta tb):=by
 intro U s Y H Q I h
 refine Subscript_ (binT ha hb I h λv u s2 x y H2 I2 rx ry q=>?_)
 obtain ⟨z,i,c,rfl,rfl,h0,oV,h1,hc,q⟩:=q
 obtain ⟨t,rfl⟩:=rx
 obtain ⟨t',rfl⟩:=ry
 have e:seqIndex? i z.length=some i.toNat:=PySem.StrLaws.seqIndex_nonneg h0 h1
 exact tail_any (typeIs_str s2 z t) slot_str_getitem.lookup (getItem_str (c:=c) (by
  have e1:decide (i < -(2 ^ 63:Int))=false:=decide_eq_false (by omega)
  have e2:decide (i>=2 ^ 63)=false:=decide_eq_false (by omega)
  rw [e1,e2]<;>rfl) (by rw [e];exact hc) ⟨.str ⟨#[c]⟩,H2,I2.tok _,⟨_,rfl⟩,q⟩) (hs _ _)
theorem vals1 {x:V}{us:List Value} (r:Vals [x] us):∃ u,us=[u]/\RelV x u:=by
 cases r with
 | cons r1 r2=>cases r2;exact ⟨_,rfl,r1⟩
theorem vals2 {x y:V}{us:List Value} (r:Vals [x,y] us):∃ u w',us=[u,w']/\RelV x u/\RelV y w':=by
 cases r with
 | cons r1 r2 =>
  cases r2 with
  | cons r3 r4=>cases r4;exact ⟨_,_,rfl,r1,r3⟩
theorem HA (hc:X.calm=true):CallR X (.builtin "min") (λxs H Q=>∃ i j,xs=[.int i,.int j]/\Q (.int (if j < i then j else i)) H):=by
 intro U s Y H xs us Q I r h
 obtain ⟨i,j,rfl,q⟩:=h
 obtain ⟨u,w',rfl,⟨t,rfl⟩,⟨t',rfl⟩⟩:=vals2 r
 refine min_two_ints (I.ok.hd hc) λh' tk k=>⟨_,H,I.kept k,?_,q⟩
 by_cases hj:j < i
 ·rw [if_pos hj,if_pos hj];exact ⟨_,rfl⟩
 ·rw [if_neg hj,if_neg hj];exact ⟨_,rfl⟩
theorem JF:CallR X (.type "str") (λxs H Q=>∃ i,xs=[.int i]/\i.natAbs.log2 < 1920/\Q (.str (toString i)) H):=by
 intro U s Y H xs us Q I r h
 obtain ⟨i,rfl,hz,q⟩:=h
 obtain ⟨u,rfl,t,rfl⟩:=vals1 r
 exact PySem.P.str_of_int hz ⟨.str _,H,I.tok _,⟨_,rfl⟩,q⟩
end
structure ObjM (h:Heap) (x dx C:Addr) (mA:Str->Option Value):Prop where
 obj:h.get? x=some (instObj C dx)
 ns:h.Ns1 dx mA
 ne:dx≠x
structure Cls (K:PySem.W.Frag) (C:Addr):Prop where
 pg:PySem.W.plainGet K C Str.empty=true
 hd:PySem.W.hasDictIn K C=true
 po:PySem.W.plainOver K C=true
 sa:findIn K (.ref C) "__setattr__"=some (some (.builtin "object.__setattr__"))
structure Con (K:PySem.W.Frag) (C:Addr) (f:Str) (v:V) (u:Value):Prop where
 at_:findIn K (.ref C) f=some (some u)
 rel:RelV v u
 get:specialIn K u "__get__"=some none
 cp:PySem.W.copiedNames.contains f=false
structure Meth (K:PySem.W.Frag) (C:Addr) (m:Str) (f:Addr):Prop where
 at_:findIn K (.ref C) m=some (some (.ref f))
 fn:isFn K (.ref f)=true
 kp:PySem.W.keepIn K (.ref f)=true
section
variable {X:Cx}{U:List (Addr×Obj)}{Y:St}{H:Hp}{s:Shared}{A:Around}{E:Value->Shared->Prop}{Q:Value->Shared->Prop}{c:Value}{b:Bool}
inductive TyOf (K:PySem.W.Frag) (H:Hp):V->Value->Prop where
 | non:TyOf K H .non (.type "NoneType")
 | bl (x:Bool):TyOf K H (.bl x) (.type "bool")
 | int (i:Int):TyOf K H (.int i) (.type "int")
 | str (x:Str):TyOf K H (.str x) (.type "str")
 | flt (x:UInt64):TyOf K H (.flt x) (.type "float")
 | lst {a:Addr}{xs:List V} (e:H a=some (.lst xs)):TyOf K H (.ref a) (.type "list")
 | frz {a:Addr}{o:Obj}{xs:List V} (e:H a=some (.frz o (.lst xs))):TyOf K H (.ref a) (.type "list")
 | tup {a:Addr}{xs:List V} (e:H a=some (.tup xs)):TyOf K H (.ref a) (.type "tuple")
 | dK {a:Addr}{aP:List (Key×V)} (e:H a=some (.dK aP)):TyOf K H (.ref a) (.type "dict")
 | dT {a:Addr}{aP:List (List Key×V)} (e:H a=some (.dT aP)):TyOf K H (.ref a) (.type "dict")
 | ins {a C dx:Addr}{fs:List (Str×V)} (e:H a=some (.ins C dx fs)) (cl:Cls K C) (ha:findIn K (.ref C) "__class__"=some (some (.builtin "object.__class__")))
   (hn:specialIn K (.builtin "object.__class__") "__get__"=some (some (.builtin "getset_descriptor.__get__"))) (oW:PySem.W.takesIn K (.builtin "object.__class__")=some true)
   (hm:PySem.W.mroIn K C (.type "object")=some true):TyOf K H (.ref a) (.ref C)
end
structure Room (k:Nat) (A:Around):Prop where
 hd:A.handled=none
 dp:A.depth+3*k+5 < recursionLimit
 un:A.units+16*k+200 < cLine
 gd:A.guards=some []
theorem Room.mono {j k:Nat}{A:Around} (r:Room k A) (h:j<=k):Room j A:=⟨r.hd,by have:=r.dp;omega,by have:=r.un;omega,r.gd⟩
theorem Room.deeper {k:Nat}{A:Around} (r:Room (k+1) A) (env:Env):Room k (A.deeper env) :=
 ⟨r.hd,by have:=r.dp;show A.depth+1+3*k+5 < _;omega,by have:=r.un;show A.units+3+16*k+200 < _;omega,r.gd⟩
theorem Room.depth {k:Nat}{A:Around} (r:Room k A):A.depth < recursionLimit:=by have:=r.dp;omega
noncomputable def tNil:TA:=λ_ H Q=>Q [] H
noncomputable def tCons (ta:TE) (tr:TA):TA:=λY H Q=>ta Y H λx H1=>tr Y H1 λxs H2=>Q (x::xs) H2
section
variable {X:Cx}{e:Expr}{es:List Expr}{te:TE}{t:TA}{pos:Pos}
theorem xI:PA X [] tNil:=λ_ _ _ _ H Q I h=>Calls.spliced_nil ⟨[],H,I,.nil,h⟩
theorem sx (ha:PE X e te) (hr:PA X es t) (hs:starEach (e::es) X.env=(false,eval e X.env)::starEach es X.env:=by rfl):PA X (e::es) (tCons te t):=by
 intro pos U s Y H Q I h
 rw [hs]
 show wpAny _ _ (spliced ((false,eval e X.env)::backTo pos (starEach es X.env))) _ _ s
 refine Calls.spliced_cons (thn (ha U s Y H _ I h) λu s1 ⟨x,H1,I1,r1,q1⟩=>?_)
 exact thn (hr pos U s1 Y H1 _ I1 q1) λus s2 ⟨xs,H2,I2,r2,q2⟩=>⟨x::xs,H2,I2,.cons r1 r2,q2⟩
noncomputable def tTup (t:TA):TE:=λY H Q=>t Y H λxs H1=>xs.length<=sizeLine/\∀ p,H1 p=none->Q (.ref p) (upd H1 p (.tup xs))
noncomputable def tLst (t:TA):TE:=λY H Q=>t Y H λxs H1=>xs.length<=sizeLine/\∀ p,H1 p=none->Q (.ref p) (upd H1 p (.lst xs))
theorem BJ {x1} (h:PA X es t):PE X (.Tuple es x1 pos) (tTup t):=by
 intro U s Y H Q I hq
 refine wpAny_Tuple_spliced (thn (h pos U s Y H _ I hq) λus s1 ⟨xs,H1,I1,r,z,q⟩=>⟨by rw [← r.length];exact z,?_⟩)
 have hf:H1 s1.heap.objs.size=none:=I1.hok.fresh (le_refl _)
 refine ⟨.ref s1.heap.objs.size,upd H1 s1.heap.objs.size (.tup xs),I1.laid (t':=s1.toks) (λb u e=>get?_push_of_some _ e) (le_refl _) ?_,rfl,q _ hf⟩
 exact ⟨z,us,r,⟨_,get?_push_size _ rfl,rfl,_,rfl⟩⟩
theorem HK (h:PA X es t):PE X (.List es pos) (tLst t):=by
 intro U s Y H Q I hq
 refine wpAny_List_spliced (thn (h pos U s Y H _ I hq) λus s1 ⟨xs,H1,I1,r,z,q⟩=>⟨by rw [← r.length];exact z,?_⟩)
 have hf:H1 s1.heap.objs.size=none:=I1.hok.fresh (le_refl _)
 refine ⟨.ref s1.heap.objs.size,upd H1 s1.heap.objs.size (.lst xs),I1.laid (t':=s1.toks) (λb u e=>get?_push_of_some _ e) (le_refl _) ?_,rfl,q _ hf⟩
 exact ⟨z,us,0,r,get?_push_size _ rfl⟩
end
abbrev Sp:=List V->Hp->VK->XK->Prop
abbrev CXT:=List Env->Hp->Shared->XK->Value->Shared->Prop
structure Env0 (P:Program) (w:World) (K:PySem.W.Frag) (mg:Str->Option Value) (base:Heap) (A:Around) (outer:List Env) (s:Shared) (H:Hp):Prop where
 frames:A.frames=some outer
 mod:Mod K mg base
 bs:∀ b o,base.get? b=some o->s.heap.get? b=some o/\H b=none
 bsz:base.objs.size<=s.heap.objs.size
 funs:s.heap.FunFrames base outer
 frf:∀ b∈frs outer,H b=none
 hok:HOk P w H s.heap
 bare:AllBare s.gens
def CE (outer:List Env) (P:Program) (w:World) (H:Hp) (s:Shared) (Q:VK) (u:Value) (s':Shared):Prop :=
 ∃ v H',s'.os=s.os/\AllBare s'.gens/\Un (frs outer) [] H H' s.heap s'.heap/\HOk P w H' s'.heap/\RelV v u/\Q v H'
def CR (CX:CXT) (outer:List Env) (P:Program) (w:World) (H:Hp) (s:Shared) (Q:VK) (E:XK) (r:Result) (s':Shared):Prop :=
 match r with
 | .ok (.ret u)=>CE outer P w H s Q u s'
 | .ok _=>False
 | .error e=>CX outer H s E e s'
structure FnOk (P:Program) (w:World) (K:PySem.W.Frag) (mg:Str->Option Value) (base:Heap) (CX:CXT) (k:Nat) (f:Addr) (fd:FuncData) (ps:List Str) (sp:Sp):Prop where
 len:∀ vs H Q E,sp vs H Q E->vs.length=ps.length
 run:∀ (A:Around) (outer:List Env) (s:Shared) (H:Hp) (args:Args) (us:List Value) (vs:List V) (Q:VK) (E:XK),Room k A->Env0 P w K mg base A outer s H->BindsTo s fd args (ps.zip us)->Vals vs us->sp vs H Q E →
  codeAny (model P w) A (.call (.ref f) args) (CR CX outer P w H s Q E) s
section
variable {X:Cx}{U:List (Addr×Obj)}{Y:St}{H:Hp}{s s':Shared}
theorem Inv.env0 (I:Inv X U Y H s):Env0 X.prog X.w X.K X.mg X.base X.A X.stack s H :=
 ⟨I.ok.frames,I.ok.mod,I.bs,le_trans I.ok.bsz I.sz,I.stack,I.stkFree,I.hok,I.bare⟩
theorem Inv.after {Q:VK}{u:Value} (I:Inv X U Y H s) (h:CE X.stack X.prog X.w H s Q u s'):EP X U Y Q u s':=by
 obtain ⟨v,H',os,bare,un,hok,r,q⟩:=h
 obtain ⟨hh,g,d,t,iR⟩:=s'
 obtain rfl:iR=s.os:=os
 exact ⟨v,H',I.call (h':=hh) (g':=g) (d':=d) (t':=t) (ch:=[]) un hok bare (λb z=>absurd z (by simp)),r,q⟩
end
noncomputable def tCall (sp:Sp) (dR:List V) (E:XK) (t:TA):TE:=λY H Q=>t Y H λvs H1=>sp (vs++dR) H1 Q E
def Binds (K:PySem.W.Frag) (fd:FuncData) (ps:List Str) (ds:List Value):Prop :=
 ∀ (s:Shared) (us:List Value),K.In s.heap->(us++ds).length=ps.length->BindsTo s fd ⟨us,[]⟩ (ps.zip (us++ds))
theorem Binds.all {K:PySem.W.Frag}{fd:FuncData}{ps:List Str} (h:∀ us:List Value,us.length=ps.length->bindArgs fd ⟨us,[]⟩=pure (ps.zip us)):Binds K fd ps []:=λs us _ hl=>by
 rw [append_nil] at hl ⊢
 exact .of_eq (h us hl)
def Passes (CX:CXT) (X:Cx) (E:XK):Prop:=∀ (U:List (Addr×Obj)) (Y:St) (H:Hp) (s:Shared) (e:Value) (s':Shared),Inv X U Y H s->CX X.stack H s E e s'->X.xe e s'
section
variable {X:Cx}{CX:CXT}{k:Nat}{f C:Addr}{fd:FuncData}{ps:List Str}{sp:Sp}{dR:List V}{ds:List Value}{E:XK}{x m:Str}{p pos aQ:Pos}{e o:Expr}{es:List Expr}{ta:TE}{t:TA}
theorem Kt {U:List (Addr×Obj)}{Y:St}{H:Hp}{s:Shared}{Q:VK}{us:List Value}{vs:List V} (F:FnOk X.prog X.w X.K X.mg X.base CX k f fd ps sp) (hr:Room k X.A) (hb:Binds X.K fd ps ds) (hd:Vals dR ds) (hx:Passes CX X E)
  (I:Inv X U Y H s) (r:Vals vs us) (h:sp (vs++dR) H Q E):wpAny (model X.prog X.w) X.A (call (.ref f) us) (EP X U Y Q) X.xe s:=by
 have r2:Vals (vs++dR) (us++ds):=r.append hd
 have hl:(us++ds).length=ps.length:=by rw [← r2.length];exact F.len _ _ _ _ h
 refine wpAny_call (codeAny_mono (F.run X.A X.stack s H ⟨us,[]⟩ (us++ds) (vs++dR) Q E hr I.env0 (hb s us I.kIn hl) r2 h) λr s' hq=>?_)
 cases r with
 | error e=>exact hx U Y H s e s' I hq
 | ok fl =>
  cases fl with
  | ret u=>exact I.after hq
  | next=>exact elim hq
  | brk=>exact elim hq
  | cont=>exact elim hq
theorem wj (F:FnOk X.prog X.w X.K X.mg X.base CX k f fd ps sp) (hr:Room k X.A) (hg:Gl X x) (hm:X.mg x=some (.ref f)) (hk:PySem.W.keepIn X.K (.ref f)=true) (hb:Binds X.K fd ps ds) (hd:Vals dR ds) (hx:Passes CX X E)
  (ha:PA X (e::es) t) (aW:(x == ("__debug__":Str))=false:=by decide) (he:starEach (e::es) X.env=(false,eval e X.env)::starEach es X.env:=by rfl) (aA:(backTo pos (starEach es X.env)).any (·.1)=false:=by rfl) :
  PE X (.Call (.Name x p) (e::es) [] pos) (tCall sp dR E t):=by
 intro U s Y H Q I h
 refine wpAny_Call_Name_kw (t9 I hg hm ?_ aW)
 refine PySem.W.callWith_K (h₀:=X.base) I.ok.mod.kin hk (thn (ha pos U s Y H _ I h) λus s1 ⟨vs,H1,I1,r,q⟩=>⟨I1.kIn,?_⟩) he aA
 exact Kt F hr hb hd hx I1 r q
structure Mk (K:PySem.W.Frag) (C f:Addr):Prop where
 makes:PySem.W.makesIn K C=true
 init:findIn K (.ref C) "__init__"=some (some (.ref f))
 fn:isFn K (.ref f)=true
 kp:PySem.W.keepIn K (.ref C)=true
end
section
variable {X:Cx}{CX:CXT}{k:Nat}{f C:Addr}{fd:FuncData}{ps ks:List Str}{sp:Sp}{E:XK}{x m:Str}{p pos aQ oN:Pos}{e o:Expr}{es:List Expr}{oX:List Keyword}{te ta:TE}{t tk:TA}{nm:Option Str}
structure KBinds (K:PySem.W.Frag) (fd:FuncData) (ps ks:List Str) (g:List Value->List Value->List Value) (gV:List V->List V->List V):Prop where
 to:∀ (s:Shared) (us ws:List Value),K.In s.heap->(g us ws).length=ps.length->BindsTo s fd ⟨us,ks.zip ws⟩ (ps.zip (g us ws))
 rel:∀ {vs:List V}{us:List Value}{zs:List V}{ws:List Value},Vals vs us->Vals zs ws->Vals (gV vs zs) (g us ws)
variable {g:List Value->List Value->List Value}{gV:List V->List V->List V}
end
structure FnScope (N P:List Str) (sc:Scope):Prop where
 kind:sc.kind=.function
 co:sc.isCoroutine=false
 gen:sc.isGenerator=false
 nd:N.Nodup
 pre:N.take P.length=P
 par:∀ x∈P,sc.names.lookup x=some .local\/sc.names.lookup x=some .cell
 nofree:∀ y∈sc.names,y.2≠.free
theorem BQ {kindOf:Str->Option NameKind}{x:Str}:∀ {binds:List (Str×Value)}{m:Str->Option Value},(∀ v,(x,v)∉binds)->bindL kindOf binds m x=m x
 | [],_,_=>rfl
 | (n,v)::r,m,h=>by
  unfold bindL
  rw [BQ λw hw=>h w (mem_cons_of_mem _ hw)]
  split
  ·have:x≠n:=by rintro rfl;exact h v mem_cons_self
   simp [this]
  ·rfl
theorem zS {kindOf:Str->Option NameKind}{x:Str}:∀ {binds:List (Str×Value)}{m:Str->Option Value},(∀ v,(x,v)∉binds)->bindC kindOf binds m x=m x
 | [],_,_=>rfl
 | (n,v)::r,m,h=>by
  unfold bindC
  rw [zS λw hw=>h w (mem_cons_of_mem _ hw)]
  split
  ·rfl
  ·have:x≠n:=by rintro rfl;exact h v mem_cons_self
   simp [this]
theorem Az {kindOf:Str->Option NameKind}{x:Str}{v:Value}:∀ {P:List Str}{vs:List Value}{i:Nat}{m:Str->Option Value},P.Nodup->P[i]?=some x->vs[i]?=some v->kindOf x=some .local →
  bindL kindOf (P.zip vs) m x=some v
 | [],_,_,_,_,h,_,_=>by simp at h
 | _::_,[],_,_,_,_,h,_=>by simp at h
 | p::P,w::vs,0,m,nd,h1,h2,hk=>by
  simp at h1 h2;subst h1;subst h2
  show bindL kindOf ((p,w)::P.zip vs) m p=_
  unfold bindL
  rw [BQ λv hv=>(nodup_cons.mp nd).1 (of_mem_zip hv).1,if_pos hk]
  simp
 | p::P,w::vs,i+1,m,nd,h1,h2,hk=>by
  show bindL kindOf ((p,w)::P.zip vs) m x=_
  unfold bindL
  exact Az (i:=i) (nodup_cons.mp nd).2 (by simpa using h1) (by simpa using h2) hk
theorem Aj {kindOf:Str->Option NameKind}{x:Str}{v:Value}:∀ {P:List Str}{vs:List Value}{i:Nat}{m:Str->Option Value},P.Nodup->P[i]?=some x->vs[i]?=some v->kindOf x≠some .local →
  bindC kindOf (P.zip vs) m x=some v
 | [],_,_,_,_,h,_,_=>by simp at h
 | _::_,[],_,_,_,_,h,_=>by simp at h
 | p::P,w::vs,0,m,nd,h1,h2,hk=>by
  simp at h1 h2;subst h1;subst h2
  show bindC kindOf ((p,w)::P.zip vs) m p=_
  unfold bindC
  rw [zS λv hv=>(nodup_cons.mp nd).1 (of_mem_zip hv).1,if_neg hk]
  simp
 | p::P,w::vs,i+1,m,nd,h1,h2,hk=>by
  show bindC kindOf ((p,w)::P.zip vs) m x=_
  unfold bindC
  exact Aj (i:=i) (nodup_cons.mp nd).2 (by simpa using h1) (by simpa using h2) hk
noncomputable def start (N:List Str) (vs:List V):St:=vs.map some++replicate (N.length - vs.length) none
noncomputable def cxOf (CX:CXT) (P:Program) (w:World) (K:PySem.W.Frag) (mg:Str->Option Value) (base:Heap) (N:List Str) (qual:Str) (scope:Scope) (f:Addr) (cd:Value) (A:Around) (outer:List Env) (s:Shared) (H:Hp) (E:XK):Cx where
 prog:=P
 w:=w
 K:=K
 mg:=mg
 base:=base
 A:=A.deeper (envOfC qual scope s.heap.objs.size f cd)
 N:=N
 s₀:=s
 H₀:=H
 env:=envOfC qual scope s.heap.objs.size f cd
 outer:=outer
 stack:=envOfC qual scope s.heap.objs.size f cd::outer
 ex:=[]
 calm:=true
 fn:=λ_=>true
 pn:=[]
 xe:=λe s'=>wpAny (model P w) (A.deeper (envOfC qual scope s.heap.objs.size f cd)) (leaving (envOfC qual scope s.heap.objs.size f cd) e) (λ_ fg=>CX outer H s E e fg) (λe' fg=>CX outer H s E e' fg) s'
theorem zW {sc:Scope}{n:Nat}{x:Str} (h:sc.names.lookup x=some .cell):∃ c,(cellsFrom n sc.names []).lookup x=some c:=by
 have q:=PySem.W.cellsFrom_some sc.names n [] (.inl h)
 exact Option.isSome_iff_exists.mp q
theorem Fu {CX:CXT}{P:Program}{w:World}{K:PySem.W.Frag}{mg:Str->Option Value}{base:Heap}{N ps:List Str}{qual:Str}{scope:Scope}{f:Addr}{cd:Value}{A:Around}{outer:List Env}{s s1:Shared}{H:Hp}{E:XK}{us:List Value}{vs:List V}
  (S:FnScope N ps scope) (hd:A.handled=none) (e0:Env0 P w K mg base A outer s H) (hl:vs.length=ps.length) (r:Vals vs us)
  (x:InCallC s s.heap.objs.size (bindL (envOfC qual scope s.heap.objs.size f cd).kindOf (ps.zip us) λ_=>none) (cellsFrom (s.heap.objs.size+1) scope.names []) (bindC (envOfC qual scope s.heap.objs.size f cd).kindOf (ps.zip us) λ_=>none) s1) :
  Inv (cxOf CX P w K mg base N qual scope f cd A outer s H E) [] (start N vs) H s1:=by
 have aA:ps.length<=N.length:=by have:=congrArg length S.pre;rw [length_take] at this;omega
 obtain ⟨h1,tk,rfl,hk⟩:=x.done
 have fF:∀ b:Addr,b∉(cxOf CX P w K mg base N qual scope f cd A outer s H E).ex:=λb z=>absurd (show b∈([]:List Addr) from z) (by simp)
 refine ⟨⟨e0.mod,S.kind,rfl,rfl,le_refl _,λy z c h1 h2=>?_,λy hy=>?_,λy c _ h=>?_,λ_=>hd,Around.frames_deeper e0.frames,.inr ⟨rfl,rfl⟩,λb z=>absurd z (fF b),e0.bs,e0.bsz,λb _ _=>fF b,λb z=>absurd z (fF b),e0.funs,e0.frf⟩,
  rfl,e0.bare,Un.kept hk,⟨_,x.toInCall.ns,λi y v h1 h2 h3=>?_⟩,λy c h=>⟨_,x.cell y c h⟩,e0.hok.fresh (le_refl _),λy c h=>?_,λp hp=>absurd (show p∈([]:List (Addr×Obj)) from hp) (by simp),e0.hok.kept hk,?_⟩
 ·exact name_of_addr x.apart (PySem.mem_of_lookup h1) (PySem.mem_of_lookup h2)
 ·have hy:scope.names.lookup y=some .cell\/scope.names.lookup y=some .free:=hy
  rcases hy with hy | hy
  ·exact zW hy
  ·exact absurd rfl (S.nofree _ (PySem.mem_of_lookup hy))
 ·exact le_of_lt (x.above y c (PySem.mem_of_lookup h))
 ·have hi:i < vs.length:=by
   unfold start at h2
   by_cases hi:i < vs.length
   ·exact hi
   ·rw [List.getElem?_append_right (by simpa using hi)] at h2
    rw [List.getElem?_replicate] at h2
    split at h2<;>cases h2
  have ha:vs[i]?=some v:=by
   unfold start at h2
   rw [getElem?_append_left (by simpa using hi),getElem?_map] at h2
   cases e:vs[i]? with
   | none=>rw [e] at h2;cases h2
   | some a=>rw [e] at h2;cases h2;rfl
  obtain ⟨u,hu,rv⟩:=r.get ha
  have hp:ps[i]?=some y:=by
   rw [← S.pre,List.getElem?_take_of_lt (by omega)];exact h1
  have kj:ps.Nodup:=by rw [← S.pre];exact S.nd.sublist (List.take_sublist _ _)
  refine ⟨u,rv,?_⟩
  rcases S.par y (mem_of_getElem? hp) with k | k
  ·exact .inl ⟨k,Az kj hp hu k⟩
  ·obtain ⟨c,e⟩:=zW (n:=s.heap.objs.size+1) k
   refine .inr ⟨.inl k,c,e,?_⟩
   have q:=x.cell y c e
   rw [Aj kj hp hu (by show scope.names.lookup y≠_;rw [k];decide)] at q
   exact q
 ·exact e0.hok.fresh (le_of_lt (x.above y c (PySem.mem_of_lookup h)))
 ·unfold start
  show _=N.length
  rw [length_append,length_map,length_replicate]
  omega
theorem zY {CX:CXT}{P:Program}{w:World}{K:PySem.W.Frag}{mg:Str->Option Value}{base:Heap}{k:Nat}{f:Addr}{name qual:Str}{params:Arguments}{body:List Stmt}{scope:Scope}{dV kV bC pm ao ct oc:Value}{an od:Option Addr}
  {dz:Array (Option Value)}{N ps:List Str}{sp:Sp} (lk:K.lookup f=some ⟨oc,od,.func (fnOf name qual params body scope dV kV bC pm an ao ct),dz⟩) (bW:codeIn K ao qual=true) (S:FnScope N ps scope)
  (len:∀ vs H Q E,sp vs H Q E->vs.length=ps.length)
  (eA:∀ (A:Around) (outer:List Env) (s:Shared) (H:Hp) (vs:List V) (Q:VK) (E:XK),Room k (A.deeper (envOfC qual scope s.heap.objs.size f ao))->sp vs H Q E →
   ∃ t,PSs (cxOf CX P w K mg base N qual scope f ao A outer s H E) body t/\t { nx:=λ_ H'=>Q .non H',rt:=Q } (start N vs) H) :
  FnOk P w K mg base CX (k+1) f (fnOf name qual params body scope dV kV bC pm an ao ct) ps sp:=by
 refine ⟨len,λA outer s H args us vs Q E hr e0 hb r dS=>?_⟩
 have hl:=len _ _ _ _ dS
 have KX:K.In s.heap:=e0.mod.kin.keeps λb o e=>(e0.bs b o e).1
 have lim:s.heap.NoLimit:=e0.mod.nolimit.keeps λb o e=>(e0.bs b o e).1
 have iS:∀ y∈ps.zip us,scope.names.lookup y.1=some .local\/(scope.names.lookup y.1=some .cell/\((cellsFrom (s.heap.objs.size+1) scope.names []).lookup y.1).isSome=true):=λ⟨n,v⟩ hy=>by
  rcases S.par n (of_mem_zip hy).1 with q | q
  ·exact .inl q
  ·exact .inr ⟨q,PySem.W.cellsFrom_some _ _ _ (.inl q)⟩
 refine codeAny_call_function hr.depth (KX _ _ lk) rfl S.co S.gen rfl (PySem.W.codeRec_of KX bW) (hb _ _ _ _ ?_)
 refine wpAny_newFunctionEnv_cells S.kind iS λenv he s1 x=>?_
 subst he
 refine ⟨lim.keeps x.toInCall.keep,codeAny_func ?_⟩
 obtain ⟨t,ht,hq⟩:=eA A outer s H vs Q E (hr.deeper _) dS
 have I:Inv (cxOf CX P w K mg base N qual scope f ao A outer s H E) [] (start N vs) H s1:=Fu S hr.hd e0 hl r x
 refine wpAny_mono (ht [] s1 (start N vs) H _ I hq) (λfl s' hs=>?_) λe s' hs=>hs
 have fin:∀ {ai:St}{H':Hp}{v:V}{u:Value},Inv (cxOf CX P w K mg base N qual scope f ao A outer s H E) [] ai H' s'->RelV v u->Q v H'->CE outer P w H s Q u s' :=
  λ{ai H' v u} J rv q=>⟨v,H',J.os,J.bare,J.base,J.hok,rv,q⟩
 cases fl with
 | ret u =>
  obtain ⟨v,ai,H',J,rv,q⟩:=hs
  exact fin J rv q
 | next =>
  obtain ⟨ai,H',J,q⟩:=hs
  exact fin (v:=V.non) (u:=Value.none) J rfl q
 | brk =>
  obtain ⟨_,_,_,q⟩:=hs
  exact elim q
 | cont =>
  obtain ⟨_,_,_,q⟩:=hs
  exact elim q
section
variable {X:Cx}{x:Str}{p pos:Pos}{e:Expr}{es:List Expr}{t:TA}{id T:String}{r:List V->Hp->VK->Prop}
noncomputable def tCB (r:List V->Hp->VK->Prop) (t:TA):TE:=λY H Q=>t Y H λvs H1=>r vs H1 Q
theorem yn (hc:CallR X (.builtin id) r) (hg:Gl X x) (hm:X.mg x=none) (hv:bootBuiltins x=some (.builtin id)) (ha:PA X (e::es) t) (hn:x ≠ "__name__":=by decide) (aW:(x == ("__debug__":Str))=false:=by decide)
  (he:starEach (e::es) X.env=(false,eval e X.env)::starEach es X.env:=by rfl) (aA:(backTo pos (starEach es X.env)).any (·.1)=false:=by rfl):PE X (.Call (.Name x p) (e::es) [] pos) (tCB r t):=by
 intro U s Y H Q I h
 refine wpAny_Call_Name_kw (rR I hg hm hv ?_ hn aW)
 exact PyProof.Rows.callWith_builtin1 (thn (ha pos U s Y H _ I h) λus s1 ⟨vs,H1,I1,r1,q1⟩=>hc U s1 Y H1 vs us Q I1 r1 q1) he aA
theorem xz (hc:CallR X (.type T) r) (hg:Gl X x) (hm:X.mg x=none) (hv:bootBuiltins x=some (.type T)) (ha:PA X (e::es) t) (hn:x ≠ "__name__":=by decide) (aW:(x == ("__debug__":Str))=false:=by decide)
  (he:starEach (e::es) X.env=(false,eval e X.env)::starEach es X.env:=by rfl) (aA:(backTo pos (starEach es X.env)).any (·.1)=false:=by rfl):PE X (.Call (.Name x p) (e::es) [] pos) (tCB r t):=by
 intro U s Y H Q I h
 refine wpAny_Call_Name_kw (rR I hg hm hv ?_ hn aW)
 exact PyProof.Rows.callWith_type1 (thn (ha pos U s Y H _ I h) λus s1 ⟨vs,H1,I1,r1,q1⟩=>hc U s1 Y H1 vs us Q I1 r1 q1) he aA
end
end L2
namespace HT
open PySem PyProof.Rows
section
variable {prog:Program}{w:World}{A:Around}{E:Value->Shared->Prop}{s:Shared}
theorem Dt {t b:Addr}{vs ws:List Value}{Q:Value->Shared->Prop} (ht:IsTup s.heap t vs.toArray) (hb:IsTup s.heap b ws.toArray) (hv:vs≠[])
  (h1:ws=[]->Q (.ref t) s) (h2:ws≠[]->Q (.ref s.heap.objs.size) { s with heap:=s.heap.push { cls:=.type "tuple", data:=.seq (vs++ws).toArray } })
  (fG:vs.length+ws.length<=sizeLine):wpAny (model prog w) A (binaryOp .Add (.ref t) (.ref b)) Q E s:=by
 obtain ⟨⟨cls,dd,data,sl⟩,ho,hc,n,hd⟩:=id ht
 obtain ⟨⟨kl,gM,data2,gN⟩,dU,cz,n2,cV⟩:=id hb
 simp only at hc hd cz cV
 subst hc hd cz cV
 have e:vs.toArray++ws.toArray=(vs++ws).toArray:=by simp
 by_cases hw:ws=[]
 ·exact concat_meets ⟨_,ho,rfl⟩ ⟨_,dU,rfl⟩ noFill_tuple_add seq_tuple_add slot_tuple_add entry_tuple_add (args_tuple_add_2 _ _)
   (tuple_addW1 t b vs.toArray ws.toArray n n2 dd gM sl gN (by simpa using hv) (by simp [hw])) ⟨ho,dU,h1 hw⟩
 ·refine concat_meets ⟨_,ho,rfl⟩ ⟨_,dU,rfl⟩ noFill_tuple_add seq_tuple_add slot_tuple_add entry_tuple_add (args_tuple_add_2 _ _)
   (tuple_addW2 t b vs.toArray ws.toArray n n2 dd gM sl gN (by simpa using hv) (by simpa using hw) (by rw [size_toArray,size_toArray];exact fG)) ⟨ho,dU,?_⟩
  rw [e]
  exact h2 hw
noncomputable def sIx (n d:Nat):Option Int->Nat
 | none=>d
 | some v=>if v < 0 then (v+(n:Int)).toNat else min v.toNat n
theorem Bx (n d:Nat):sIx n d none=d:=rfl
theorem La (n d:Nat) (hd:d<=n) (o:Option Int):sIx n d o<=n:=by
 cases o with
 | none=>exact hd
 | some v =>
  show (if v < 0 then (v+(n:Int)).toNat else min v.toNat n)<=n
  by_cases hv:v < 0
  ·rw [if_pos hv];omega
  ·rw [if_neg hv];exact Nat.min_le_right _ _
theorem Au (v:Int) (n d:Nat):(if v < 0 then max (v+(n:Int)) 0 else min v (n:Int))=((sIx n d (some v):Nat):Int):=by
 show (if v < 0 then max (v+(n:Int)) 0 else min v (n:Int))=(((if v < 0 then (v+(n:Int)).toNat else min v.toNat n):Nat):Int)
 by_cases hv:v < 0
 ·simp only [if_pos hv];omega
 ·simp only [if_neg hv];omega
theorem Fs (lo hi:Option Int) (n:Nat):sliceAdjust lo hi 1 (n:Int)=(((sIx n 0 lo:Nat):Int),((sIx n n hi:Nat):Int)):=by
 have h1:¬ ((1:Int) < 0):=by omega
 unfold sliceAdjust
 simp only [h1,if_false]
 refine Prod.ext ?_ ?_
 ·cases lo with
  | none=>rfl
  | some v=>exact Au v n 0
 ·cases hi with
  | none=>rfl
  | some v=>exact Au v n n
theorem Ff (i j:Nat):slicePlaces (i:Int) (j:Int) 1=j - i:=by
 unfold slicePlaces
 have h1:(1:Int) > 0:=by omega
 simp only [h1,if_true,Int.ediv_one]
 split<;>omega
theorem A' {v:Value}{o:Option Int}{Q:Option Int->Shared->Prop} (p:IsPart v o) (h:Q o s):wpAny (model prog w) A (Builtin.Slice.slicePartIndex v) Q E s:=by
 cases p with
 | none=>exact slicePart_none h
 | int i t=>exact slicePart_int h
theorem Bn {sl:Addr}{vl vu:Value}{lo hi:Option Int}{n:Nat}{Q:Int×Int×Nat->Shared->Prop} (hs:s.heap.IsSliceOf sl vl vu .none) (pl:IsPart vl lo) (pu:IsPart vu hi)
  (h:Q (((sIx n 0 lo:Nat):Int),1,sIx n n hi - sIx n 0 lo) s):wpAny (model prog w) A (sliceApplied (.ref sl) (pure (n:Int))) Q E s:=by
 obtain ⟨os,eB,gO,eC⟩:=id hs
 unfold sliceApplied Builtin.Slice.sliceFields
 refine wpAny_bind (wpAny_bind (wpAny_field eB eC (x:=vl) rfl (wpAny_bind (wpAny_field eB eC (x:=vu) rfl (wpAny_bind (wpAny_field eB eC (x:=.none) rfl (wpAny_pure ?_)))))))
 refine wpAny_bind (slicePart_none ?_)
 show wpAny _ _ (if ((1:Int) == 0)=true then _ else _) _ _ s
 rw [if_neg (by decide)]
 refine wpAny_bind (A' pl (wpAny_bind (A' pu (wpAny_bind (wpAny_pure ?_)))))
 show wpAny _ _ (match sliceAdjust lo hi 1 (n:Int) with | (lo,hi)=>pure (lo,(1:Int),slicePlaces lo hi 1)) _ _ s
 rw [Fs lo hi n]
 show wpAny _ _ (pure (((sIx n 0 lo:Nat):Int),(1:Int),slicePlaces ((sIx n 0 lo:Nat):Int) ((sIx n n hi:Nat):Int) 1)) _ _ s
 rw [Ff]
 exact wpAny_pure h
theorem Hg (xs:Array Value) (i k:Nat):((range k).filterMap λ(m:Nat)=>xs[((i:Int)+(m:Int)*1).toNat]?).toArray=((xs.toList.drop i).take k).toArray:=by
 have e:(λ(m:Nat)=>xs[((i:Int)+(m:Int)*1).toNat]?)=λm=>xs[i+m]?:=by
  funext m
  have:((i:Int)+(m:Int)*1).toNat=i+m:=by omega
  rw [this]
 rw [e]
 have:=pick_run xs i k
 rw [List.filterMap_map] at this
 have e2:((λx=>xs[x]?)∘λx=>i+x)=λm=>xs[i+m]?:=rfl
 rw [e2] at this
 rw [this]
theorem Iu {t sl:Addr}{ag:Array Value}{vl vu:Value}{lo hi:Option Int}{Q:Value->Shared->Prop} (ht:IsTup s.heap t ag) (hs:s.heap.IsSliceOf sl vl vu .none) (pl:IsPart vl lo) (pu:IsPart vu hi)
  (hw:¬ (sIx ag.size 0 lo=0/\sIx ag.size ag.size hi=ag.size))
  (h:Q (.ref s.heap.objs.size) { s with heap:=s.heap.push { cls:=.type "tuple", data:=.seq ((ag.toList.drop (sIx ag.size 0 lo)).take (sIx ag.size ag.size hi - sIx ag.size 0 lo)).toArray } })
  (fG:ag.size<=sizeLine):wpAny (model prog w) A (getItem (.ref t) (.ref sl)) Q E s:=by
 have dA:sizeOk (.seq ((ag.toList.drop (sIx ag.size 0 lo)).take (sIx ag.size ag.size hi - sIx ag.size 0 lo)).toArray):=by
  show ((ag.toList.drop (sIx ag.size 0 lo)).take (sIx ag.size ag.size hi - sIx ag.size 0 lo)).toArray.size<=sizeLine
  rw [size_toArray,length_take,length_drop,length_toList]
  omega
 have hj:sIx ag.size ag.size hi<=ag.size:=La _ _ (le_refl _) hi
 obtain ⟨os,eB,gO,eC⟩:=id hs
 have iU:s.TypeIs (.ref sl) "slice":=⟨os,eB,gO⟩
 unfold getItem
 try with_reducible refine wpAny_holding ?_
 first | refine wpAny_bind (wpAny_pure ?_) | skip
 refine wpAny_bind (wpAny_sequenceKey ht.typeIs (by decide) ?_)
 refine wpAny_bind (wpAny_callSpecial?_slot (name:=ofString "__getitem__") ht.typeIs PyProof.Rows.slot_tuple_getitem
  (wpAny_call_entry PyProof.Rows.slot_tuple_getitem ht.typeIs entry_tuple_getitem ?_ (args_tuple_getitem _ _)))
 show wpAny _ _ (tupleItemsOf (.ref t) >>= _) _ _ s
 refine wpAny_bind (tupleItemsOf_ ht ?_)
 refine wpAny_bind (wpAny_typeOf iU ?_)
 rw [if_pos (by decide)]
 refine wpAny_bind (Bn hs pl pu ?_)
 have mw:¬ ((((sIx ag.size 0 lo:Nat):Int) == 0&&(1:Int) == 1&&(sIx ag.size ag.size hi - sIx ag.size 0 lo) == ag.size)=true):=by
  intro q
  rw [and_eq_true,and_eq_true] at q
  have q1:((sIx ag.size 0 lo:Nat):Int)=0:=eq_of_beq q.1.1
  have q2:sIx ag.size ag.size hi - sIx ag.size 0 lo=ag.size:=eq_of_beq q.2
  exact hw ⟨by omega,by omega⟩
 show wpAny _ _ (if (((sIx ag.size 0 lo:Nat):Int) == 0&&(1:Int) == 1&&(sIx ag.size ag.size hi - sIx ag.size 0 lo) == ag.size)=true then _ else _) _ _ s
 rw [if_neg mw,Hg]
 first
  | exact wpAny_bind (m:=tupleExact _) (wpAny_newObj_type (wpAny_pure ⟨_,rfl,wpAny_pure h⟩) dA)
  | exact wpAny_bind (m:=tupleExact _) (wpAny_newObj_type (wpAny_bind (wpAny_pure (wpAny_pure ⟨_,rfl,wpAny_pure h⟩))) dA)
  | exact wpAny_bind (wpAny_bind (m:=tupleExact _) (wpAny_newObj_type (wpAny_pure (wpAny_pure ⟨_,rfl,wpAny_pure h⟩)) dA))
  | exact wpAny_bind (wpAny_bind (m:=tupleExact _) (wpAny_newObj_type (wpAny_pure ⟨_,rfl,wpAny_pure h⟩) dA))
end
end HT
namespace L2
open PySem PySem.Spec PyProof.Rows
abbrev TO:=St->Hp->(Option Int->Hp->Prop)->Prop
def PO (X:Cx) (e:Option Expr) (t:TO):Prop :=
 ∀ (U:List (Addr×Obj)) (s:Shared) (Y:St) (H:Hp) (Q:Option Int->Hp->Prop),Inv X U Y H s->t Y H Q →
  wpAny (model X.prog X.w) X.A (evalPart e X.env) (λu s'=>∃ o H',Inv X U Y H' s'/\IsPart u o/\Q o H') X.xe s
noncomputable def tNoPart:TO:=λ_ H Q=>Q none H
noncomputable def tPart (t:TE):TO:=λY H Q=>t Y H λx H1=>∃ i,x=.int i/\Q (some i) H1
section
variable {X:Cx}{e:Expr}{te:TE}{lo hi:Option Expr}{tl th:TO}{pos p2:Pos}
theorem EJ:PO X none tNoPart:=by
 intro U s Y H Q I h
 rw [evalPart_none]
 exact wpAny_pure ⟨none,H,I,.none,h⟩
theorem HZ (h:PE X e te):PO X (some e) (tPart te):=by
 intro U s Y H Q I hw
 rw [evalPart_some]
 refine thn (h U s Y H _ I hw) λu s1 ⟨x,H1,I1,r1,q1⟩=>?_
 obtain ⟨i,rfl,q⟩:=q1
 obtain ⟨t,rfl⟩:=r1
 exact ⟨some i,H1,I1,.int i t,q⟩
def SlR (X:Cx) (r:V->Option Int->Option Int->Hp->VK->Prop):Prop :=
 ∀ (U:List (Addr×Obj)) (s:Shared) (Y:St) (H:Hp) (x:V) (v vl vu:Value) (lo hi:Option Int) (sl:Addr) (Q:VK),Inv X U Y H s->RelV x v->s.heap.IsSliceOf sl vl vu .none->IsPart vl lo->IsPart vu hi->r x lo hi H Q →
  ∃ T id,typeLookup (.type T) "__getitem__"=pure (some (.builtin id))/\s.TypeIs v T/\wpAny (model X.prog X.w) X.A (getItem v (.ref sl)) (EP X U Y Q) X.xe s
theorem SlR.or {r r':V->Option Int->Option Int->Hp->VK->Prop} (h:SlR X r) (h':SlR X r'):SlR X (λx lo hi H Q=>r x lo hi H Q\/r' x lo hi H Q):=by
 intro U s Y H x v vl vu lo hi sl Q I rx hs pl pu q
 rcases q with q | q
 ·exact h U s Y H x v vl vu lo hi sl Q I rx hs pl pu q
 ·exact h' U s Y H x v vl vu lo hi sl Q I rx hs pl pu q
noncomputable def tSl (r:V->Option Int->Option Int->Hp->VK->Prop) (te:TE) (tl th:TO):TE:=λY H Q=>te Y H λx H1=>tl Y H1 λl H2=>th Y H2 λu H3=>r x l u H3 Q
theorem CA {r:V->Option Int->Option Int->Hp->VK->Prop} (hr:SlR X r) (he:PE X e te) (hl:PO X lo tl) (hu:PO X hi th):PE X (.Subscript e (.Slice lo hi none p2) pos) (tSl r te tl th):=by
 intro U s Y H Q I h
 refine Subscript_ (thn (he U s Y H _ I h) λv s1 ⟨x,H1,I1,r1,q1⟩=>?_)
 refine wpAny_Slice (thn (hl U s1 Y H1 _ I1 q1) λvl s2 ⟨l,H2,I2,pl,q2⟩=>thn (hu U s2 Y H2 _ I2 q2) λvu s3 ⟨u,H3,I3,pu,q3⟩=>?_)
 rw [evalPart_none]
 refine wpAny_pure ?_
 have I4:Inv X U Y H3 { s3 with heap:=s3.heap.push { cls:=.type "slice", data:=.fields #[vl,vu,.none] } }:=I3.kept (t':=s3.toks) λb ob q=>get?_push_of_some _ q
 obtain ⟨T,id,hT,ht,hg⟩:=hr U { s3 with heap:=s3.heap.push { cls:=.type "slice", data:=.fields #[vl,vu,.none] } } Y H3 x v vl vu l u s3.heap.objs.size Q I4 r1 (Heap.IsSliceOf.new ..) pl pu q3
 show wpAny (model X.prog X.w) X.A (subscriptTail e (.Slice lo hi none p2) v (.ref s3.heap.objs.size)) (EP X U Y Q) X.xe { s3 with heap:=s3.heap.push { cls:=.type "slice", data:=.fields #[vl,vu,.none] } }
 exact tail_any (ops:=[.ref s3.heap.objs.size,v]) ht hT hg (by with_unfolding_all rfl)
noncomputable def cutV (xs:List V) (lo hi:Option Int):List V:=(xs.drop (HT.sIx xs.length 0 lo)).take (HT.sIx xs.length xs.length hi - HT.sIx xs.length 0 lo)
theorem Bp (xs:List V) (lo hi:Option Int):(cutV xs lo hi).length<=xs.length:=by
 unfold cutV
 rw [length_take,length_drop]
 omega
def rSlT (K:PySem.W.Frag):V->Option Int->Option Int->Hp->VK->Prop:=λx lo hi H Q=>∃ a xs,x=.ref a/\SqT K H a xs ∧
 ¬ (HT.sIx xs.length 0 lo=0/\HT.sIx xs.length xs.length hi=xs.length)/\∀ p,H p=none->Q (.ref p) (upd H p (.tup (cutV xs lo hi)))
theorem JH:SlR X (rSlT X.K):=by
 intro U s Y H x v vl vu lo hi sl Q I rx hs pl pu h
 obtain ⟨a,xs,rfl,hx,hw,q⟩:=h
 cases rx
 obtain ⟨ac,r,ht,hz⟩:=I.tuple hx
 have aR:ac.toArray.size=xs.length:=by rw [size_toArray];exact r.length.symm
 refine ⟨"tuple", _,PyProof.Rows.slot_tuple_getitem.lookup,ht.typeIs,?_⟩
 refine HT.Iu ht hs pl pu (by rw [aR];exact hw) ?_ (by rw [aR];exact hz)
 rw [aR]
 refine ⟨.ref s.heap.objs.size,_,I.laid (t':=s.toks) (o:=.tup (cutV xs lo hi)) (λb ob q=>get?_push_of_some _ q) (le_refl _) ?_,rfl,q _ (I.hok.fresh (le_refl _))⟩
 exact ⟨le_trans (Bp xs lo hi) hz,_,(r.drop (HT.sIx xs.length 0 lo)).take (HT.sIx xs.length xs.length hi - HT.sIx xs.length 0 lo),IsTup.new _ _⟩
noncomputable def rCatT (K:PySem.W.Frag):R2:=λx y H Q=>∃ a b xs ys,x=.ref a/\y=.ref b/\SqT K H a xs/\SqT K H b ys/\xs≠[]/\xs.length+ys.length<=sizeLine ∧
 (ys=[]->Q (.ref a) H)/\(ys≠[]->∀ p,H p=none->Q (.ref p) (upd H p (.tup (xs++ys))))
theorem Vals.nil_iff {xs:List V}{us:List Value} (r:Vals xs us):us=[]↔xs=[]:=by
 cases r with
 | nil=>simp
 | cons _ _=>simp
theorem Ip:OpR X (binaryOp .Add) (rCatT X.K):=by
 intro U s Y H x y v u Q I rx ry h
 obtain ⟨a,b,xs,ys,rfl,rfl,ha,hb,hx,hz,q1,q2⟩:=h
 cases rx
 cases ry
 obtain ⟨ac,r1,p1,_⟩:=I.tuple ha
 obtain ⟨dW,r2,p2,_⟩:=I.tuple hb
 refine HT.Dt p1 p2 (λz=>hx (r1.nil_iff.mp z)) (λz=>⟨.ref a,H,I,rfl,q1 (r2.nil_iff.mp z)⟩) (λz=>?_) (by rw [← r1.length,← r2.length];exact hz)
 refine ⟨.ref s.heap.objs.size,_,I.laid (t':=s.toks) (o:=.tup (xs++ys)) (λb ob q=>get?_push_of_some _ q) (le_refl _) ?_,rfl,q2 (λw=>z (r2.nil_iff.mpr w)) _ (I.hok.fresh (le_refl _))⟩
 exact ⟨by rw [length_append];exact hz,_,r1.append r2,IsTup.new _ _⟩
end
noncomputable def ixN (n:Nat) (i:Int):Option Nat:=if 0<=i then (if i < n then some i.toNat else none) else if -(n:Int)<=i then some (i+n).toNat else none
noncomputable def atI {α:Type} (xs:List α) (i:Int):Option α:=(ixN xs.length i).bind λj=>xs[j]?
theorem zK {n:Nat}{i:Int}{j:Nat} (h:ixN n i=some j):seqIndex? i n=some j/\j < n/\-(n:Int)<=i/\i < n:=by
 unfold ixN at h
 by_cases h0:0<=i
 ·rw [if_pos h0] at h
  by_cases h1:i < n
  ·rw [if_pos h1] at h
   have e:i.toNat=j:=Option.some.inj h
   exact ⟨by rw [seqIndex_of h0 h1,e],by omega,by omega,h1⟩
  ·rw [if_neg h1] at h;cases h
 ·rw [if_neg h0] at h
  by_cases h1:-(n:Int)<=i
  ·rw [if_pos h1] at h
   have e:(i+n).toNat=j:=Option.some.inj h
   exact ⟨by rw [seqIndex_neg (by omega) h1,e],by omega,h1,by omega⟩
  ·rw [if_neg h1] at h;cases h
theorem zP {α:Type}{xs:List α}{i:Int}{v:α} (h:atI xs i=some v):∃ j,seqIndex? i xs.length=some j/\xs[j]?=some v/\j < xs.length/\-(xs.length:Int)<=i/\i < xs.length:=by
 unfold atI at h
 cases e:ixN xs.length i with
 | none=>rw [e] at h;cases h
 | some j =>
  rw [e] at h
  obtain ⟨h1,h2,h3,h4⟩:=zK e
  exact ⟨j,h1,h,h2,h3,h4⟩
def PlainIx (b:Expr):Prop:=∀ o i,subscripted b false o i=operate [o,i] (getItem o i)
def IxR (X:Cx) (r:R2):Prop :=
 ∀ (value bX:Expr) (U:List (Addr×Obj)) (s:Shared) (Y:St) (H:Hp) (x y:V) (v u:Value) (Q:VK),Inv X U Y H s->RelV x v->RelV y u->r x y H Q →
  subscripted bX false v u=operate [v,u] (getItem v u)->wpAny (model X.prog X.w) X.A (subscriptTail value bX v u) (EP X U Y Q) X.xe s
def MtR (X:Cx) (id:String) (r:V->List V->Hp->VK->Prop):Prop :=
 ∀ (U:List (Addr×Obj)) (s:Shared) (Y:St) (H:Hp) (x:V) (xs:List V) (v:Value) (us:List Value) (Q:VK),Inv X U Y H s->RelV x v->Vals xs us->r x xs H Q →
  wpAny (model X.prog X.w) X.A (call (.builtin id) (v::us)) (EP X U Y Q) X.xe s
section
variable {X:Cx}{a b:Expr}{ta tb:TE}{pos:Pos}
theorem IxR.or {r r':R2} (h:IxR X r) (h':IxR X r'):IxR X (λx y H Q=>r x y H Q\/r' x y H Q):=by
 intro value bX U s Y H x y v u Q I rx ry q hs
 rcases q with q | q
 ·exact h value bX U s Y H x y v u Q I rx ry q hs
 ·exact h' value bX U s Y H x y v u Q I rx ry q hs
theorem zA {r:R2} (hr:IxR X r) (ha:PE X a ta) (hb:PE X b tb) (hs:PlainIx b):PE X (.Subscript a b pos) (tOp r ta tb):=by
 intro U s Y H Q I h
 exact Subscript_ (binT ha hb I h λv u s2 x y H2 I2 rx ry q=>hr a b U s2 Y H2 x y v u Q I2 rx ry q (hs _ _))
noncomputable def rIxL (K:PySem.W.Frag):R2:=λx y H Q=>∃ p xs i v,x=.ref p/\y=.int i/\SqL K H p xs/\atI xs i=some v/\Q v H
noncomputable def rIxT (K:PySem.W.Frag):R2:=λx y H Q=>∃ p xs i v,x=.ref p/\y=.int i/\SqT K H p xs/\atI xs i=some v/\Q v H
theorem Be:IxR X (rIxL X.K):=by
 intro value bX U s Y H x y v u Q I rx ry h hs
 obtain ⟨p,xs,i,z,rfl,rfl,hq,he,q⟩:=h
 cases rx
 obtain ⟨t,rfl⟩:=ry
 obtain ⟨ac,r,pl,hz⟩:=I.list hq
 obtain ⟨j,h1,h2,h3,h4,h5⟩:=zP he
 obtain ⟨w,ew,iV⟩:=r.get h2
 have hl:=r.length
 have hn:=line63
 have fin:EP X U Y Q w s:=⟨z,H,I,iV,q⟩
 by_cases h0:0<=i
 ·have hj:i.toNat=j:=by
   rw [seqIndex_of h0 h5] at h1
   exact Option.some.inj h1
  exact item_listR pl.isList h0 (by omega) (by rw [hj];simpa using ew) fin hs
 ·have hj:(i+(ac.toArray.size:Int)).toNat=j:=by
   rw [seqIndex_neg (by omega) h4] at h1
   rw [size_toArray,← hl]
   exact Option.some.inj h1
  exact subscriptTail_builtinR (x:=w) pl.isList.typeIs slot_list_getitem.lookup
   (wpAny_getItem_list_neg (Q:=λr s'=>r=w/\EP X U Y Q r s') pl.isList (by omega) (by rw [size_toArray]<;>omega) (by omega) (by rw [hj];simpa using ew) ⟨rfl,fin⟩) hs
theorem EE:IxR X (rIxT X.K):=by
 intro value bX U s Y H x y v u Q I rx ry h hs
 obtain ⟨p,xs,i,z,rfl,rfl,hq,he,q⟩:=h
 cases rx
 obtain ⟨t,rfl⟩:=ry
 obtain ⟨ac,r,pl,hz⟩:=I.tuple hq
 obtain ⟨j,h1,h2,h3,h4,h5⟩:=zP he
 obtain ⟨w,ew,iV⟩:=r.get h2
 have hl:=r.length
 have hn:=line63
 have fin:EP X U Y Q w s:=⟨z,H,I,iV,q⟩
 exact subscriptTail_builtinR (x:=w) pl.typeIs slot_tuple_getitem.lookup
  (getItem_tuple (j:=j) (Q:=λr s'=>r=w/\EP X U Y Q r s') pl (by omega) (by omega) (by rw [size_toArray,← hl];exact h1) (by simpa using ew) ⟨rfl,fin⟩) hs
theorem FI (ac:List Value) (n j:Nat) (u:Value):mapSeq (·.setIfInBounds j u) { cls:=.type "list", data:=.seq ac.toArray n }={ cls:=.type "list", data:=.seq (ac.set j u).toArray n }:=by
 simp [mapSeq]
theorem Inv.lst {U:List (Addr×Obj)}{Y:St}{H:Hp}{s:Shared}{p:Addr}{xs:List V} (I:Inv X U Y H s) (h:H p=some (.lst xs)) :
  ∃ (ac:List Value) (n:Nat),Vals xs ac/\s.heap.get? p=some { cls:=.type "list", data:=.seq ac.toArray n }/\xs.length<=sizeLine:=by
 obtain ⟨z,ac,n,r,e⟩:=I.hok p _ h
 exact ⟨ac,n,r,e,z⟩
theorem Inv.lstUpd {U:List (Addr×Obj)}{Y:St}{H:Hp}{s:Shared}{p:Addr}{xs ys:List V}{ac its':List Value}{n n':Nat}{f:Obj->Obj} (I:Inv X U Y H s) (h:H p=some (.lst xs))
  (ho:s.heap.get? p=some { cls:=.type "list", data:=.seq ac.toArray n }) (hf:f { cls:=.type "list", data:=.seq ac.toArray n }={ cls:=.type "list", data:=.seq its'.toArray n' }) (r:Vals ys its') (hz:ys.length<=sizeLine) (t:Nat) :
  Inv X U Y (upd H p (.lst ys)) { s with heap:=s.heap.update p f,toks:=t }:=by
 have e:(s.heap.update p f).get? p=some { cls:=.type "list", data:=.seq its'.toArray n' }:=by
  rw [get?_update_self f ho (by rw [hf]<;>rfl),hf]
 refine I.write (x:=p) (e:=p) (by rw [h];trivial) (.inl rfl) (λb u hb q=>(get?_update_other _ _ (Ne.symm hb)).trans q) ⟨_,e⟩ ?_
 exact ⟨hz,its',n',r,e⟩
def rSetL:V->V->V->Hp->(Hp->Prop)->Prop:=λo i v H Q=>∃ p xs k j,o=.ref p/\i=.int k/\H p=some (.lst xs)/\ixN xs.length k=some j/\Q (upd H p (.lst (xs.set j v)))
theorem Fi:PSet X rSetL:=by
 intro U s Y H o i v ov iv u Q I ro ri rv h
 obtain ⟨p,xs,k,j,rfl,rfl,hp,hj,q⟩:=h
 cases ro
 obtain ⟨t,rfl⟩:=ri
 obtain ⟨ac,n,r,ho,hz⟩:=I.lst hp
 obtain ⟨h1,h2,h3,h4⟩:=zK hj
 have hl:=r.length
 have hn:=line63
 have I':Inv X U Y (upd H p (.lst (xs.set j v))) { s with heap:=s.heap.update p (mapSeq (·.setIfInBounds j u)) } :=
  I.lstUpd hp ho (FI ac n j u) (r.set rv j) (by rw [length_set];exact hz) s.toks
 by_cases h0:0<=k
 ·have hk:k.toNat=j:=by
   rw [seqIndex_of h0 h4] at h1
   exact Option.some.inj h1
  exact PySem.W.ki_setAt ho h0 (by omega) (by rw [size_toArray,← hl];exact h4) (by rw [hk];exact ⟨_,I',q⟩)
 ·have hk:(k+(ac.toArray.size:Int)).toNat=j:=by
   rw [seqIndex_neg (by omega) h3] at h1
   rw [size_toArray,← hl]
   exact Option.some.inj h1
  exact PySem.W.ki_setBack ho (by omega) (by rw [size_toArray,← hl];exact h3) (by omega) (by rw [hk];exact ⟨_,I',q⟩)
theorem FT (lo hi:Option Int) (n:Nat):(sliceBounds lo hi none n).1=((HT.sIx n 0 lo:Nat):Int)/\(sliceBounds lo hi none n).2.1=((HT.sIx n n hi:Nat):Int)/\(sliceBounds lo hi none n).2.2=1:=by
 refine ⟨?_,?_,rfl⟩
 ·cases lo with
  | none=>simp [sliceBounds,HT.sIx]
  | some i =>
   simp only [sliceBounds,HT.sIx,getD_none,show (1:Int) > 0 by decide,if_true]
   by_cases h:i < 0
   ·simp only [h,if_true]<;>omega
   ·simp only [h,if_false]<;>omega
 ·cases hi with
  | none=>simp [sliceBounds,HT.sIx]
  | some i =>
   simp only [sliceBounds,HT.sIx,getD_none,show (1:Int) > 0 by decide,if_true]
   by_cases h:i < 0
   ·simp only [h,if_true]<;>omega
   ·simp only [h,if_false]<;>omega
theorem HC (ac:List Value) (lo hi:Option Int):slicePick ac.toArray lo hi none=((ac.drop (HT.sIx ac.length 0 lo)).take (HT.sIx ac.length ac.length hi - HT.sIx ac.length 0 lo)).toArray:=by
 obtain ⟨h1,h2,h3⟩:=FT lo hi ac.toArray.size
 unfold slicePick
 rw [h1,h2,h3]
 simp only [sliceRange_one,pick_run,size_toArray]<;>rfl
def rSlL (K:PySem.W.Frag):V->Option Int->Option Int->Hp->VK->Prop:=λx lo hi H Q=>∃ a xs,x=.ref a/\SqL K H a xs/\∀ p,H p=none->Q (.ref p) (upd H p (.lst (cutV xs lo hi)))
theorem FW:SlR X (rSlL X.K):=by
 intro U s Y H x v vl vu lo hi sl Q I rx hs pl pu h
 obtain ⟨a,xs,rfl,hx,q⟩:=h
 cases rx
 obtain ⟨ac,r,ht,hz⟩:=I.list hx
 have aR:=r.length
 refine ⟨"list", _,slot_list_getitem.lookup,ht.isList.typeIs,?_⟩
 refine wpAny_getItem_list_slice ht.isList hs pl pu .none (by simp) ?_ (by rw [size_toArray]<;>omega)
 rw [HC,← aR]
 refine ⟨.ref s.heap.objs.size,_,I.laid (t':=s.toks) (o:=.lst (cutV xs lo hi)) (λb ob q=>get?_push_of_some _ q) (le_refl _) ?_,rfl,q _ (I.hok.fresh (le_refl _))⟩
 exact ⟨le_trans (Bp xs lo hi) hz,_,0,(r.drop (HT.sIx xs.length 0 lo)).take (HT.sIx xs.length xs.length hi - HT.sIx xs.length 0 lo),get?_push_size _ rfl⟩
theorem HJ:CallR X (.builtin "len") (λxs H Q=>∃ p ys,xs=[.ref p]/\(SqL X.K H p ys\/SqT X.K H p ys)/\Q (.int ys.length) H):=by
 intro U s Y H xs us Q I r h
 obtain ⟨p,ys,rfl,hq,q⟩:=h
 obtain ⟨u,rfl,rx⟩:=vals1 r
 cases rx
 have hn:=line63
 rcases hq with hq | hq
 ·obtain ⟨ac,r',pl,hz⟩:=I.list hq
  have aR:=r'.length
  exact Calls.call_len_list pl.isList (by simp only [size_toArray]<;>omega) ⟨.int ys.length,H,I.tok _,⟨s.toks+1,by rw [size_toArray,aR]⟩,q⟩
 ·obtain ⟨ac,r',pl,hz⟩:=I.tuple hq
  have aR:=r'.length
  exact len_tuple pl (by simp only [size_toArray]<;>omega) ⟨.int ys.length,H,I.tok _,⟨s.toks+1,by rw [size_toArray,aR]⟩,q⟩
theorem ID:CallR X (.builtin "len") (λxs H Q=>∃ z,xs=[.str z]/\z.length<=sizeLine/\Q (.int z.length) H):=by
 intro U s Y H xs us Q I r h
 obtain ⟨z,rfl,hz,q⟩:=h
 obtain ⟨u,rfl,t,rfl⟩:=vals1 r
 have hn:=line63
 exact len_str (by omega) ⟨.int z.length,H,I.tok _,⟨_,rfl⟩,q⟩
theorem FJ:CallR X (.type "list") (λxs H Q=>∃ p ys,xs=[.ref p]/\(SqL X.K H p ys\/SqT X.K H p ys)/\∀ l,H l=none->Q (.ref l) (upd H l (.lst ys))):=by
 intro U s Y H xs us Q I r h
 obtain ⟨p,ys,rfl,hq,q⟩:=h
 obtain ⟨u,rfl,rx⟩:=vals1 r
 cases rx
 have fin:∀ (ac:List Value),Vals ys ac->ys.length<=sizeLine->∀ (h':Heap) (c':Nat),(∀ b o',s.heap.get? b=some o'->h'.get? b=some o') →
   h'.get? s.heap.objs.size=some { cls:=.type "list", dict:=none,data:=.seq ac.toArray c',slots:=#[] }->EP X U Y Q (.ref s.heap.objs.size) { s with heap:=h' }:=λac r' hz h' c' kp e =>
  ⟨.ref s.heap.objs.size,_,I.laid (t':=s.toks) kp (le_refl _) (show ObjOk X.prog X.w _ h' _ (.lst ys) from ⟨hz,ac,c',r',e⟩),rfl,q _ (I.hok.fresh (le_refl _))⟩
 rcases hq with hq | hq
 ·obtain ⟨ac,r',pl,hz⟩:=I.list hq
  have aR:=r'.length
  obtain ⟨o,ho,hc,n,hd⟩:=pl.isList
  exact call_list_seq p (.inl rfl) ho hc hd (λh' c' kp e=>fin ac r' hz h' c' kp e) (by simp only [size_toArray]<;>omega)
 ·obtain ⟨ac,r',pl,hz⟩:=I.tuple hq
  have aR:=r'.length
  obtain ⟨o,ho,hc,n,hd⟩:=pl
  exact call_list_seq p (.inr rfl) ho hc hd (λh' c' kp e=>fin ac r' hz h' c' kp e) (by simp only [size_toArray]<;>omega)
theorem Dj:CallR X (.type "tuple") (λxs H Q=>∃ p ys,xs=[.ref p]/\((SqL X.K H p ys/\∀ l,H l=none->Q (.ref l) (upd H l (.tup ys)))\/(SqT X.K H p ys/\Q (.ref p) H))):=by
 intro U s Y H xs us Q I r h
 obtain ⟨p,ys,rfl,h⟩:=h
 obtain ⟨u,rfl,rx⟩:=vals1 r
 cases rx
 rcases h with ⟨hq,q⟩ | ⟨hq,q⟩
 ·obtain ⟨ac,r',pl,hz⟩:=I.list hq
  have aR:=r'.length
  refine call_tuple_list pl.isList (λh' kp=>?_) (by simp only [size_toArray]<;>omega)
  have I1:Inv X U Y H { s with heap:=h' }:=I.kept (t':=s.toks) kp
  have I2:Inv X U Y (upd H h'.objs.size (.tup ys)) { s with heap:=h'.push { cls:=.type "tuple", data:=.seq ac.toArray } } :=
   I1.laid (t':=s.toks) (λb o e=>get?_push_of_some _ e) (le_refl _) (show ObjOk X.prog X.w _ _ _ (.tup ys) from ⟨hz,ac,r',IsTup.new _ _⟩)
  exact ⟨.ref h'.objs.size,_,I2,rfl,q _ (I1.hok.fresh (le_refl _))⟩
 ·obtain ⟨ac,r',pl,hz⟩:=I.tuple hq
  exact call_tuple_same pl ⟨.ref p,H,I,rfl,q⟩
def tyV (K:PySem.W.Frag) (T:String) (x:V) (H:Hp):Prop:=match x with
 | .str _=>T = "str"
 | .int _=>T = "int"
 | .ref p=>(T = "list"/\∃ xs,SqL K H p xs)\/(T = "tuple"/\∃ o,K.lookup p=some o/\o.cls=.type "tuple"/\o.dict=none) ∨
   (T = "dict"/\((∃ aP,H p=some (.dK aP))\/∃ aP,H p=some (.dT aP)))\/(T = "set"/\∃ S n,H p=some (.set S n))
 | _=>False
theorem FD {U:List (Addr×Obj)}{Y:St}{H:Hp}{s:Shared}{T:String}{x:V}{v:Value} (I:Inv X U Y H s) (r:RelV x v) (ty:tyV X.K T x H) :
  s.TypeIs v T/\∀ a,v=.ref a->∃ ob,s.heap.get? a=some ob/\ob.dict=none:=by
 cases x with
 | str z =>
  obtain ⟨t,rfl⟩:=r
  cases (show T = "str" from ty)
  exact ⟨typeIs_str s z t,λ_ e=>nomatch e⟩
 | int i =>
  obtain ⟨t,rfl⟩:=r
  cases (show T = "int" from ty)
  exact ⟨typeIs_int s i t,λ_ e=>nomatch e⟩
 | ref p =>
  cases r
  rcases ty with ⟨rfl,xs,hq⟩ | ⟨rfl,o,hk,hc,hd⟩ | ⟨rfl,hk⟩ | ⟨rfl,S,n,hk⟩
  ·obtain ⟨ac,_,pl,_⟩:=I.list hq
   refine ⟨pl.isList.typeIs,λa e=>?_⟩
   cases e
   obtain ⟨o,n,e,c,hd,_⟩:=pl
   exact ⟨o,e,hd⟩
  ·refine ⟨⟨o,I.kIn p o hk,hc⟩,λa e=>?_⟩
   cases e
   exact ⟨o,I.kIn _ o hk,hd⟩
  ·have z:∃ o,s.heap.get? p=some o/\o.ExactDict:=by
    rcases hk with ⟨aP,hk⟩ | ⟨aP,hk⟩
    ·obtain ⟨_,_,_,_,o,_,_,e,ex,_⟩:=I.hok p _ hk
     exact ⟨o,e,ex⟩
    ·obtain ⟨_,_,_,_,o,_,_,e,ex,_⟩:=I.hok p _ hk
     exact ⟨o,e,ex⟩
   obtain ⟨o,e,ex⟩:=z
   refine ⟨⟨o,e,ex.1⟩,λa e2=>?_⟩
   cases e2
   exact ⟨o,e,ex.2.1⟩
  ·obtain ⟨o,_,_,_,e,ex,_⟩:=I.hok p _ hk
   refine ⟨⟨o,e,ex.1⟩,λa e2=>?_⟩
   cases e2
   exact ⟨o,e,ex.2.1⟩
 | _=>exact elim ty
noncomputable def tBM (K:PySem.W.Frag) (T:String) (r:V->List V->Hp->VK->Prop) (to:TE) (t:TA):TE:=λY H Q=>to Y H λx H1=>tyV K T x H1/\t Y H1 λxs H2=>r x xs H2 Q
variable {o e:Expr}{es:List Expr}{to:TE}{t:TA}{name:Str}{aQ av:Pos}{T id:String}{r:V->List V->Hp->VK->Prop}
theorem uE (pa:PlainAttrs T) (slot:Slot T name id) (my:typeOf (.builtin id)=pure (.type "method_descriptor")) (hm:MtR X id r) (ho:PE X o to) (ha:PA X (e::es) t)
  (bD:attributeBase o name X.env (eval o X.env)=eval o X.env:=by rfl)
  (cj:((backTo av (starEach (e::es) X.env)).all (λx=>!x.1)&&(backToKw av (keywordEach [] X.env)).all (λx=>x.1.isSome)
   &&decide ((e::es).length+([]:List Keyword).length+(if ([]:List Keyword).isEmpty then 0 else 1) < 30))=true:=by rfl)
  (bE:(aQ.endLine == av.line)=true:=by rfl) (hs:starEach (e::es) X.env=(false,eval e X.env)::starEach es X.env:=by rfl) (aZ:(backTo av (starEach es X.env)).any (·.1)=false:=by rfl) :
  PE X (.Call (.Attribute o name aQ) (e::es) [] av) (tBM X.K T r to t):=by
 intro U s Y H Q I h
 refine wpAny_Call_method_late bD cj bE rfl (thn (ho U s Y H _ I h) λv s1 ⟨x,H1,I1,r1,ty,q1⟩=>?_)
 obtain ⟨h1,h2⟩:=FD I1 r1 ty
 refine ⟨T,id,pa,slot,my,h1,h2,?_⟩
 have hA:=ha av U s1 Y H1 _ I1 q1
 rw [hs] at hA ⊢
 refine Calls.callWith_builtin (by show (false||(backTo av (starEach es X.env)).any (·.1))=false;rw [aZ]<;>rfl) (Calls.evalArgs_plain ?_)
 exact thn hA λus s2 ⟨vs,H2,I2,r2,q2⟩=>hm U s2 Y H2 x vs v us Q I2 r1 r2 q2
end
def MtM (X:Cx) (id:String) (r:V->List V->Hp->VK->Prop):Prop :=
 ∀ (U:List (Addr×Obj)) (s:Shared) (Y:St) (H:Hp) (x:V) (xs:List V) (v:Value) (us:List Value) (Q:VK),Inv X U Y H s->RelV x v->Vals xs us->r x xs H Q →
  wpAny (model X.prog X.w) X.A (call (.builtin id) (v::us)) (EP X U Y Q) X.xe s
theorem Vals.one:∀ {x:V}{us:List Value},Vals [x] us->∃ u,us=[u]/\RelV x u
 | _,_,.cons r .nil=>⟨_,rfl,r⟩
theorem Vals.two:∀ {x y:V}{us:List Value},Vals [x,y] us->∃ u v,us=[u,v]/\RelV x u/\RelV y v
 | _,_,_,.cons r (.cons q .nil)=>⟨_,_,rfl,r,q⟩
section
variable {X:Cx}{U:List (Addr×Obj)}{Y:St}{H:Hp}{s:Shared}{l b:Addr}{xs ys zs:List V}
theorem Inv.lset {ac its':List Value}{n:Nat}{f:Array Value->Array Value}{t':Nat} (I:Inv X U Y H s) (hH:H l=some (.lst xs))
  (e:s.heap.get? l=some { cls:=.type "list", data:=.seq ac.toArray n }) (hf:f ac.toArray=its'.toArray) (hv:Vals ys its') (hz:ys.length<=sizeLine) :
  Inv X U Y (upd H l (.lst ys)) { s with heap:=s.heap.update l (mapSeq f),toks:=t' }:=by
 have q:=PySem.IsL.update e f
 rw [hf] at q
 refine I.write (x:=l) (e:=l) (by rw [hH];exact trivial) (.inl rfl) (λb' u hb hu=>(get?_update_other s.heap (mapSeq f) (Ne.symm hb)).trans hu) ⟨_,q⟩ ?_
 exact ⟨hz,its',_,hv,q⟩
theorem Inv.lnew {ac:List Value}{t':Nat} (I:Inv X U Y H s) (hv:Vals ys ac) (hz:ys.length<=sizeLine) :
  Inv X U Y (upd H s.heap.objs.size (.lst ys)) { s with heap:=s.heap.push { cls:=.type "list", data:=.seq ac.toArray },toks:=t' } :=
 I.laid (λ_ _ q=>get?_push_of_some _ q) (le_refl _) ⟨hz,ac,0,hv,get?_push_size _ rfl⟩
theorem Inv.fresh (I:Inv X U Y H s):H s.heap.objs.size=none:=I.hok.fresh (le_refl _)
theorem Inv.lstM (I:Inv X U Y H s) (hH:H l=some (.lst xs)):xs.length<=sizeLine/\∃ (ac:List Value) (n:Nat),Vals xs ac/\xs.length=ac.length/\s.heap.get? l=some { cls:=.type "list", data:=.seq ac.toArray n }:=by
 obtain ⟨z,ac,n,r,e⟩:=I.hok l _ hH
 exact ⟨z,ac,n,r,r.length,e⟩
end
section
variable {X:Cx}
def rAppend:V->List V->Hp->VK->Prop:=λx vs H Q=>∃ l xs y,x=.ref l/\vs=[y]/\H l=some (.lst xs)/\xs.length < sizeLine/\Q .non (upd H l (.lst (xs++[y])))
theorem zp:MtM X "list.append" rAppend:=by
 intro U s Y H x vs v us Q I rx rv h
 obtain ⟨l,xs,y,rfl,rfl,hH,hz,q⟩:=h
 cases rx
 obtain ⟨u,rfl,ru⟩:=rv.one
 obtain ⟨z,ac,n,r,hl,e⟩:=I.lstM hH
 refine call_meets F.slot_list_append ⟨_,e,rfl⟩ F.entry_list_append (F.args_list_append_2 _ _) (PySem.list_append l ac.toArray n u (by rw [size_toArray];omega)) ⟨e,?_⟩
 refine ⟨.non,_,I.lset (its':=ac++[u]) hH e (by simp) (r.append (.cons ru .nil)) ?_,rfl,q⟩
 rw [length_append,List.length_singleton]
 omega
end
end L2
namespace Att
open PySem PySem.W PySem.Calls PyProof.Rows
theorem Gc {P:Params}{h:Heap}:∀ (ns:List Int) (vs:List Value),WellAll P h vs (ns.map WData.int)->IntsAre vs ns:=by
 intro ns
 induction ns with
 | nil =>
  intro vs w
  rw [List.map_nil] at w
  cases w
  exact .nil
 | cons n ns ih =>
  intro vs w
  rw [map_cons] at w
  cases w with
  | cons a b =>
   cases a
   exact .cons _ _ (ih _ b)
theorem He {l:OpenLaw}{n:Nat} (hn:l.most=some n){P:Params}{h:Heap}{args:List WData}{fH:List Value}
  (eV:l.row.toRowW.claim.pre args=true) (iW:WellAll P h fH args) :
  ∃ a vs ns,fH=[Value.ref a]/\args=[WData.list (ns.map WData.int)]/\h.get? a=some { cls:=.type "list", data:=.seq vs.toArray }/\IntsAre vs ns/\ns.length<=n:=by
 have mz:WShape.hasAll [] args [.list .int]=true:=(pre_splitW eV).1
 have hc:l.pre.holds [] { args:=args }=true:=(pre_splitW eV).2
 obtain ⟨d,r,rfl,h1,h2⟩:=hasAllW_cons mz
 obtain rfl:=hasAllW_nil h2
 obtain ⟨xs,rfl,h3⟩:=hasW_list h1
 obtain ⟨ns,rfl⟩:=items_int h3
 have aR:ns.length<=n:=by
  unfold OpenLaw.pre at hc
  have h4:(WTm.not (.lt (.lit (.int (n:Int))) (.len (.arg 0)))).holds [] { args:=[.list (ns.map .int)] }=true:=by
   have h4:=(holds_andW hc).1
   rw [hn] at h4
   exact h4
  have h5:=condW_of h4 (w_not (w_lt w_lit (w_len_list (w_arg rfl))))
  rw [length_map] at h5
  refine Nat.le_of_not_lt λq=>?_
  have q':(n:Int) < ((ns.length:Nat):Int):=by omega
  first
   | (rw [decide_eq_true q'] at h5;exact absurd h5 (by decide))
   | (simp at h5;omega)
 cases iW with
 | cons w1 w2 =>
  cases w2
  cases w1 with
  | list ho hall=>exact ⟨_,_,ns,rfl,rfl,ho,Gc ns _ hall,aR⟩
theorem Ea (l:OpenLaw) (args:List WData):l.row.toRowW.claim.post args (.bool true) args=true :=
 postW_of (r:=l.row.toRowW) (X:=(true == true))
  (show WShape.has [] (.bool true) .bool=true by first | rfl | decide | simp [WShape.has,WShape.arms,WShape.armsAll])
  (show (WTm.eq .res (.lit (.bool true))).value [] { args:=args,res:=some (.bool true),after:=args }=some (.bool (true == true)) from w_eq_bool (w_res rfl) w_lit) rfl
theorem JN {l:OpenLaw}{n:Nat}{q:Program}{cA:List Str}{XP:(Str->Option Value)->Heap->Prop}{YP:World->Heap->Prop}{d:DefRec}
  (hn:l.most=some n) (fI:d.params.defaults=[])
  (call:∀ (w:World) (s₀ aq:Shared) (mg mb:Str->Option Value) (fa:Addr) (o:Obj) (pm cd bC:Value) (a:Addr) (vs:List Value) (ns:List Int),
   Ground q cA [] XP w s₀ mg mb aq.heap->YP w aq.heap →
   aq.heap.get? fa=some o->o.data=.func (docDef d.name d.params d.body d.scope pm cd bC)->aq.heap.CodeRec cd d.name->mg d.name=some (.ref fa) →
   aq.heap.get? a=some { cls:=.type "list", data:=.seq vs.toArray }->IntsAre vs ns->ns.length<=n->aq.gens=#[] →
   codeAny (model l.prog w) callerA (.call (.ref fa) ⟨[.ref a],[]⟩) (λr s'=>r=.ok (.ret (.bool true))/\OldK aq.heap s'.heap/\s'.os=aq.os/\AllBare s'.gens) aq) :
  WalkO q cA XP YP l.row.toRowW d [] (λf vs=>PySem.call f vs):=by
 intro w s₀ aq mg mb G pM fa o pm cd bC dV kV ho hd bW hD fJ hg args fH as eV oO km iW kn
 obtain rfl:dV=.none:=Dflts.none hD fI
 obtain rfl:kV=.none:=Dflts.noKw hD
 obtain ⟨a,vs,ns,rfl,rfl,fK,eD,aR⟩:=He hn eV iW
 refine enter_call (codeAny_mono (call w s₀ aq mg mb fa o pm cd bC a vs ns G pM ho (fd_plain hd) bW fJ fK eD aR hg) λr s' hq=>?_)
 obtain ⟨rfl,h2,h3,h4⟩:=hq
 exact ⟨.inl ⟨.bool true,.bool true,[],rfl,λ_=>rfl,.bool true,Ea l _,λ_=>⟨List.Pairwise.nil,λ_ hm=>(nomatch hm)⟩⟩,h2,h3,h4⟩
end Att
namespace L2
open PySem PySem.Spec PyProof.Rows
theorem zq:∀ {vs:List Value}{ns:List Int},IntsAre vs ns->Vals (ns.map V.int) vs
 | _,_,.nil=>.nil
 | _,_,.cons n t h=>.cons ⟨t,rfl⟩ (zq h)
def Only (H:Hp):Prop:=∀ b,H b=none\/∃ o xs,H b=some (.frz o (.lst xs))
noncomputable def defArgs (s:Stmt):Arguments:=match s with
 | .FunctionDef _ a _ _ _ _ _ _ _ _=>a
 | _=>{ posonlyargs:=[],args:=[],vararg:=none,kwonlyargs:=[],kw_defaults:=[],kwarg:=none,defaults:=[] }
noncomputable def defBody (s:Stmt):List Stmt:=match s with
 | .FunctionDef _ _ b _ _ _ _ _ _ _=>b
 | _=>[]
noncomputable def defScope (s:Stmt):Scope:=match s with
 | .FunctionDef _ _ _ _ _ _ sc _ _ _=>sc
 | _=>{ kind:=.function,names:=[],isGenerator:=false,isCoroutine:=false }
noncomputable abbrev CX0:CXT:=λ_ _ _ _ _ _=>False
noncomputable abbrev E0:XK:=λ_ _ _=>False
theorem pass0 {X:Cx}:Passes CX0 X E0:=λ_ _ _ _ _ _ _ h=>h.elim
structure Fun (K:PySem.W.Frag) (x qual:Str) (st:Stmt) (f:Addr) (fd:FuncData):Prop where
 ex:∃ (oc:Value) (od:Option Addr) (kV bC pm:Value) (an:Option Addr) (ao ct:Value) (dz:Array (Option Value)),
  fd=fnOf x qual (defArgs st) (defBody st) (defScope st) .none kV bC pm an ao ct/\K.lookup f=some ⟨oc,od,.func fd,dz⟩/\codeIn K ao qual=true
 kp:PySem.W.keepIn K (.ref f)=true
section
variable {P:Program}{w:World}{K:PySem.W.Frag}{mg:Str->Option Value}{base:Heap}
theorem Fun.ok {x qual:Str}{st:Stmt}{f:Addr}{fd:FuncData}{N ps:List Str}{k:Nat}{sp:Sp} (F:Fun K x qual st f fd) (S:FnScope N ps (defScope st)) (len:∀ vs H Q E,sp vs H Q E->vs.length=ps.length)
  (eA:∀ (ao:Value) (A:Around) (outer:List Env) (s:Shared) (H:Hp) (vs:List V) (Q:VK) (E:XK),Room k (A.deeper (envOfC qual (defScope st) s.heap.objs.size f ao))->sp vs H Q E →
   ∃ t,PSs (cxOf CX0 P w K mg base N qual (defScope st) f ao A outer s H E).nox (defBody st) t/\t { nx:=λ_ H'=>Q .non H',rt:=Q } (start N vs) H):FnOk P w K mg base CX0 (k+1) f fd ps sp:=by
 obtain ⟨oc,od,kV,bC,pm,an,ao,ct,dz,rfl,lk,bW⟩:=F.ex
 refine zY lk bW S len λA outer s H vs Q E hr dS=>?_
 obtain ⟨t,h,q⟩:=eA ao A outer s H vs Q E hr dS
 exact ⟨t,h.nox,q⟩
theorem Fun.binds {x qual:Str}{st:Stmt}{f:Addr}{fd:FuncData}{ps:List Str} (F:Fun K x qual st f fd)
  (h:∀ (kV bC pm:Value) (an:Option Addr) (ao ct:Value) (us:List Value),us.length=ps.length->bindArgs (fnOf x qual (defArgs st) (defBody st) (defScope st) .none kV bC pm an ao ct) ⟨us,[]⟩=pure (ps.zip us)):Binds K fd ps []:=by
 obtain ⟨oc,od,kV,bC,pm,an,ao,ct,dz,rfl,lk,bW⟩:=F.ex
 exact .all (h kV bC pm an ao ct)
theorem Jv {x qual:Str}{st:Stmt}{f:Addr}{oc:Value}{od an:Option Addr}{dz:Array (Option Value)}{kV bC pm ao ct:Value} (l:K.lookup f=some ⟨oc,od,.func (fnOf x qual (defArgs st) (defBody st) (defScope st) .none kV bC pm an ao ct),dz⟩)
  (c:codeIn K ao qual=true) (k:PySem.W.keepIn K (.ref f)=true):Fun K x qual st f (fnOf x qual (defArgs st) (defBody st) (defScope st) .none kV bC pm an ao ct):=⟨⟨oc,od,kV,bC,pm,an,ao,ct,dz,rfl,l,c⟩,k⟩
end
section
variable {X:Cx}
theorem pv (i:Nat){x:Str}{pos:Pos} (hN:X.N[i]?=some x:=by rfl) (hv:visB X.env.scope x=true:=by rfl) (hd:(x == ("__debug__":Str))=false:=by decide)
  (bW:(x == ("__classdict__":Str))=false:=by decide):PE X (.Name x pos) (tVar i):=Hs hN (visI hv) hd bW
end
theorem iteF {A B:Prop} (h:B):if false=true then A else B:=by
 rw [if_neg Bool.false_ne_true]
 exact h
theorem iteT {A B:Prop} (h:A):if true=true then A else B:=by
 rw [if_pos rfl]
 exact h
def Same (H H':Hp):Prop:=∀ b o,H b=some o->H' b=some o
theorem Same.refl (H:Hp):Same H H:=λ_ _ h=>h
theorem Same.trans {H H1 H2:Hp} (a:Same H H1) (b:Same H1 H2):Same H H2:=λc o h=>b c o (a c o h)
theorem Same.free {H H':Hp} (e:Same H H'){l:Addr} (h:H' l=Option.none):H l=Option.none:=by
 cases q:H l with
 | none=>rfl
 | some o =>
  rw [e l o q] at h
  cases h
structure M1 (X:Cx) (o:Expr) (m:Str) (aQ:Pos) (e:Expr) (av:Pos):Prop where
 base:attributeBase o m X.env (eval o X.env)=eval o X.env
 few:((backTo av (starEach [e] X.env)).all (λx=>!x.1)&&(backToKw av (keywordEach [] X.env)).all (λx=>x.1.isSome)
  &&decide (([e]:List Expr).length+([]:List Keyword).length+(if ([]:List Keyword).isEmpty then 0 else 1) < 30))=true
 line:(aQ.endLine == av.line)=true
 trees:backTo av (starEach [e] X.env)=[(false,eval e X.env)]
structure M2 (X:Cx) (o:Expr) (m:Str) (aQ:Pos) (e f:Expr) (av:Pos):Prop where
 base:attributeBase o m X.env (eval o X.env)=eval o X.env
 few:((backTo av (starEach [e,f] X.env)).all (λx=>!x.1)&&(backToKw av (keywordEach [] X.env)).all (λx=>x.1.isSome)
  &&decide (([e,f]:List Expr).length+([]:List Keyword).length+(if ([]:List Keyword).isEmpty then 0 else 1) < 30))=true
 line:(aQ.endLine == av.line)=true
 trees:backTo av (starEach [e,f] X.env)=[(false,eval e X.env),(false,eval f X.env)]
end L2
set_option maxHeartbeats 4000000
namespace DL
open PySem PySem.Spec PyProof.Rows L2
inductive D where
 | non | bl (b:Bool) | int (i:Int) | str (x:Str) | tup (xs:List D) | lst (xs:List D)
def RdK (K:PySem.W.Frag) (I:Hp) (a:Addr) (xs:List V):Prop:=Rd I a (.lst xs)\/∃ (ac:List Value) (n:Nat),K.lookup a=some { cls:=.type "list", data:=.seq ac.toArray n }/\Vals xs ac/\ac.length<=sizeLine
theorem RdK.of {K:PySem.W.Frag}{I:Hp}{a:Addr}{xs:List V} (h:I a=some (.lst xs)):RdK K I a xs:=.inl (.inl h)
theorem RdK.sq {K:PySem.W.Frag}{I:Hp}{a:Addr}{xs:List V} (h:RdK K I a xs):SqL K I a xs:=by
 rcases h with h | ⟨ac,n,h1,h2,h3⟩
 ·exact .inl h
 ·exact .inr ⟨_,ac.toArray,n,h1,rfl,rfl,rfl,by simpa using h3,by simpa using h2⟩
mutual
def Is (K:PySem.W.Frag) (I:Hp):D->V->Prop
 | .non,v=>v=.non
 | .bl b,v=>v=.bl b
 | .int i,v=>v=.int i
 | .str x,v=>v=.str x
 | .tup ds,v=>∃ a xs,v=.ref a/\SqT K I a xs/\IsA K I ds xs
 | .lst ds,v=>∃ a xs,v=.ref a/\RdK K I a xs/\IsA K I ds xs
def IsA (K:PySem.W.Frag) (I:Hp):List D->List V->Prop
 | [],xs=>xs=[]
 | d::ds,xs=>∃ x r,xs=x::r/\Is K I d x/\IsA K I ds r
end
section
variable {K:PySem.W.Frag}{I I' H:Hp}
theorem Same.rd {a:Addr}{o:HO} (e:Same I I') (h:Rd I a o):Rd I' a o:=by
 rcases h with h | ⟨u,h⟩
 ·exact .inl (e _ _ h)
 ·exact .inr ⟨u,e _ _ h⟩
theorem Same.rdK {a:Addr}{xs:List V} (e:Same I I') (h:RdK K I a xs):RdK K I' a xs:=by
 rcases h with h | h
 ·exact .inl (Same.rd e h)
 ·exact .inr h
theorem Same.sqT {a:Addr}{xs:List V} (e:Same I I') (h:SqT K I a xs):SqT K I' a xs:=by
 rcases h with h | h
 ·exact .inl (Same.rd e h)
 ·exact .inr h
mutual
theorem Is.mono (e:Same I I'):∀ {d:D}{v:V},Is K I d v->Is K I' d v
 | .non,_,h=>by rw [Is] at h ⊢;exact h
 | .bl _,_,h=>by rw [Is] at h ⊢;exact h
 | .int _,_,h=>by rw [Is] at h ⊢;exact h
 | .str _,_,h=>by rw [Is] at h ⊢;exact h
 | .tup ds,v,h=>by
  rw [Is] at h ⊢
  obtain ⟨a,xs,e1,e2,e3⟩:=h
  exact ⟨a,xs,e1,Same.sqT e e2,IsA.mono e e3⟩
 | .lst ds,v,h=>by
  rw [Is] at h ⊢
  obtain ⟨a,xs,e1,e2,e3⟩:=h
  exact ⟨a,xs,e1,Same.rdK e e2,IsA.mono e e3⟩
theorem IsA.mono (e:Same I I'):∀ {ds:List D}{xs:List V},IsA K I ds xs->IsA K I' ds xs
 | [],_,h=>by rw [IsA] at h ⊢;exact h
 | d::ds,xs,h=>by
  rw [IsA] at h ⊢
  obtain ⟨x,r,e1,e2,e3⟩:=h
  exact ⟨x,r,e1,Is.mono e e2,IsA.mono e e3⟩
end
theorem IsA.nil:IsA K I [] []:=by rw [IsA]
theorem IsA.cons {d:D}{ds:List D}{x:V}{xs:List V} (h:Is K I d x) (t:IsA K I ds xs):IsA K I (d::ds) (x::xs):=by
 rw [IsA];exact ⟨x,xs,rfl,h,t⟩
theorem IsA.nil_inv {xs:List V} (h:IsA K I [] xs):xs=[]:=by rw [IsA] at h;exact h
theorem IsA.cons_inv {d:D}{ds:List D}{xs:List V} (h:IsA K I (d::ds) xs):∃ x r,xs=x::r/\Is K I d x/\IsA K I ds r:=by rw [IsA] at h;exact h
theorem IsA.length:∀ {ds:List D}{xs:List V},IsA K I ds xs->ds.length=xs.length
 | [],xs,h=>by rw [h.nil_inv]<;>rfl
 | d::ds,xs,h=>by
  obtain ⟨x,r,rfl,_,t⟩:=h.cons_inv
  simp [IsA.length t]
theorem IsA.get:∀ {ds:List D}{xs:List V}{i:Nat}{d:D},IsA K I ds xs->ds[i]?=some d->∃ x,xs[i]?=some x/\Is K I d x
 | [],xs,i,d,h,e=>by simp at e
 | c::ds,xs,0,d,h,e=>by
  obtain ⟨x,r,rfl,hx,t⟩:=h.cons_inv
  simp at e;subst e
  exact ⟨x,rfl,hx⟩
 | c::ds,xs,i+1,d,h,e=>by
  obtain ⟨x,r,rfl,hx,t⟩:=h.cons_inv
  obtain ⟨y,e1,e2⟩:=IsA.get (i:=i) t (by simpa using e)
  exact ⟨y,by simpa using e1,e2⟩
theorem IsA.append:∀ {ds es:List D}{xs ys:List V},IsA K I ds xs->IsA K I es ys->IsA K I (ds++es) (xs++ys)
 | [],es,xs,ys,h,t=>by rw [h.nil_inv];exact t
 | d::ds,es,xs,ys,h,t=>by
  obtain ⟨x,r,rfl,hx,h'⟩:=h.cons_inv
  exact IsA.cons hx (IsA.append h' t)
theorem IsA.take:∀ {ds:List D}{xs:List V} (n:Nat),IsA K I ds xs->IsA K I (ds.take n) (xs.take n)
 | ds,xs,0,h=>by rw [take_zero,take_zero];exact IsA.nil
 | [],xs,n+1,h=>by rw [h.nil_inv];exact IsA.nil
 | d::ds,xs,n+1,h=>by
  obtain ⟨x,r,rfl,hx,h'⟩:=h.cons_inv
  rw [List.take_succ_cons,List.take_succ_cons]
  exact IsA.cons hx (IsA.take n h')
theorem IsA.drop:∀ {ds:List D}{xs:List V} (n:Nat),IsA K I ds xs->IsA K I (ds.drop n) (xs.drop n)
 | ds,xs,0,h=>by rw [List.drop_zero,List.drop_zero];exact h
 | [],xs,n+1,h=>by rw [h.nil_inv];exact IsA.nil
 | d::ds,xs,n+1,h=>by
  obtain ⟨x,r,rfl,hx,h'⟩:=h.cons_inv
  rw [drop_succ_cons,drop_succ_cons]
  exact IsA.drop n h'
theorem IsA.set {d:D}{x:V} (q:Is K I d x):∀ {ds:List D}{xs:List V} (n:Nat),IsA K I ds xs->IsA K I (ds.set n d) (xs.set n x)
 | [],xs,n,h=>by rw [h.nil_inv];exact IsA.nil
 | c::ds,xs,0,h=>by
  obtain ⟨y,r,rfl,hx,h'⟩:=h.cons_inv
  exact IsA.cons q h'
 | c::ds,xs,n+1,h=>by
  obtain ⟨y,r,rfl,hx,h'⟩:=h.cons_inv
  exact IsA.cons hx (IsA.set q n h')
theorem IsA.one {d:D}{xs:List V} (h:IsA K I [d] xs):∃ x,xs=[x]/\Is K I d x:=by
 obtain ⟨x,r,rfl,hx,t⟩:=h.cons_inv
 rw [t.nil_inv]
 exact ⟨x,rfl,hx⟩
theorem IsA.two {d e:D}{xs:List V} (h:IsA K I [d,e] xs):∃ x y,xs=[x,y]/\Is K I d x/\Is K I e y:=by
 obtain ⟨x,r,rfl,hx,t⟩:=h.cons_inv
 obtain ⟨y,rfl,hy⟩:=t.one
 exact ⟨x,y,rfl,hx,hy⟩
theorem pY {i:Int}{v:V} (h:Is K I (.int i) v):v=.int i:=by rw [Is] at h;exact h
theorem qw {i:Bool}{v:V} (h:Is K I (.bl i) v):v=.bl i:=by rw [Is] at h;exact h
theorem qy {i:Str}{v:V} (h:Is K I (.str i) v):v=.str i:=by rw [Is] at h;exact h
theorem rl {v:V} (h:Is K I .non v):v=.non:=by rw [Is] at h;exact h
theorem qa {ds:List D}{v:V} (h:Is K I (.tup ds) v):∃ a xs,v=.ref a/\SqT K I a xs/\IsA K I ds xs:=by rw [Is] at h;exact h
theorem qi {ds:List D}{v:V} (h:Is K I (.lst ds) v):∃ a xs,v=.ref a/\RdK K I a xs/\IsA K I ds xs:=by rw [Is] at h;exact h
theorem Is.int (i:Int):Is K I (.int i) (.int i):=by rw [Is]
theorem Is.bl (i:Bool):Is K I (.bl i) (.bl i):=by rw [Is]
theorem Is.str (i:Str):Is K I (.str i) (.str i):=by rw [Is]
theorem Is.non:Is K I .non .non:=by rw [Is]
theorem Is.tup {ds:List D}{a:Addr}{xs:List V} (h:SqT K I a xs) (t:IsA K I ds xs):Is K I (.tup ds) (.ref a):=by rw [Is];exact ⟨a,xs,rfl,h,t⟩
theorem Is.lst {ds:List D}{a:Addr}{xs:List V} (h:RdK K I a xs) (t:IsA K I ds xs):Is K I (.lst ds) (.ref a):=by rw [Is];exact ⟨a,xs,rfl,h,t⟩
end
inductive R where
 | val (d:D) | own (ds:List D) | bor (ds:List D) | fro (ds:List D) | dic (aP:List (Int×D))
noncomputable def R.mut:R->Bool
 | .val _=>false
 | .own _=>true
 | .bor _=>true
 | .fro _=>false
 | .dic _=>false
noncomputable def R.ptr:R->Bool
 | .val _=>false
 | .own _=>true
 | .bor _=>true
 | .fro _=>false
 | .dic _=>true
abbrev Gm:=List (Option R)
def Mt (K:PySem.W.Frag) (G I H:Hp) (ds:List D) (v:V):Prop:=∃ p xs,v=.ref p/\H p=some (.lst xs)/\I p=none/\G p=none/\IsA K I ds xs
def IsK (K:PySem.W.Frag) (I:Hp) (aP:List (Int×D)) (xs:List (Key×V)):Prop:=xs.map (·.1)=aP.map (λq=>inl q.1)/\IsA K I (aP.map (·.2)) (xs.map (·.2))
theorem IsK.mono {K:PySem.W.Frag}{I I':Hp}{aP:List (Int×D)}{xs:List (Key×V)} (e:Same I I') (h:IsK K I aP xs):IsK K I' aP xs:=⟨h.1,h.2.mono e⟩
def MtK (K:PySem.W.Frag) (G I H:Hp) (aP:List (Int×D)) (v:V):Prop:=∃ p xs,v=.ref p/\H p=some (.dK xs)/\I p=none/\G p=none/\IsK K I aP xs
def SlotOk (K:PySem.W.Frag) (G I H:Hp):R->V->Prop
 | .val d,v=>Is K I d v
 | .own ds,v=>Mt K G I H ds v
 | .bor ds,v=>Mt K G I H ds v
 | .fro ds,v=>∃ p xs,v=.ref p/\I p=some (.lst xs)/\G p=none/\IsA K I ds xs
 | .dic aP,v=>MtK K G I H aP v
theorem SlotOk.mt {K:PySem.W.Frag}{G I H:Hp}{r:R}{v:V} (h:SlotOk K G I H r v) (m:r.ptr=true):∃ p xs,v=.ref p/\H p=some xs/\I p=none/\G p=none:=by
 cases r with
 | val d=>cases m
 | own ds=>obtain ⟨p,xs,e1,e2,e3,e4,_⟩:=h;exact ⟨p,_,e1,e2,e3,e4⟩
 | bor ds=>obtain ⟨p,xs,e1,e2,e3,e4,_⟩:=h;exact ⟨p,_,e1,e2,e3,e4⟩
 | fro ds=>cases m
 | dic ds=>obtain ⟨p,xs,e1,e2,e3,e4,_⟩:=h;exact ⟨p,_,e1,e2,e3,e4⟩
structure Rep (K:PySem.W.Frag) (B:Nat->Option (Option V)) (G I H:Hp) (Y:L2.St) (Γ:Gm):Prop where
 iH:Same I H
 gH:Same G H
 len:Y.length=Γ.length
 slot:∀ (i:Nat) (r:R),Γ[i]?=some (some r)->∃ v,Y[i]?=some (some v)/\SlotOk K G I H r v
 dist:∀ (i j:Nat) (r r':R) (v:V),Γ[i]?=some (some r)->Γ[j]?=some (some r')->r.ptr=true->r'.ptr=true->Y[i]?=some (some v)->Y[j]?=some (some v)->i=j
 bor:∀ (i:Nat) (ds:List D),Γ[i]?=some (some (.bor ds))->Y[i]?=B i
structure Grow (G I I':Hp):Prop where
 up:Same I I'
 new:∀ b o,I' b=some o->I b=some o\/G b=none
theorem Grow.refl (G I:Hp):Grow G I I:=⟨Same.refl _,λ_ _ h=>.inl h⟩
theorem Grow.trans {G I I1 I2:Hp} (a:Grow G I I1) (b:Grow G I1 I2):Grow G I I2:=⟨a.up.trans b.up,λc o h=>by
 rcases b.new c o h with h1 | h1
 ·exact a.new c o h1
 ·exact .inr h1⟩
section
variable {K:PySem.W.Frag}{B:Nat->Option (Option V)}{G I I' H H':Hp}{Y:L2.St}{Γ:Gm}
theorem Rep.ext (r:Rep K B G I H Y Γ) (hI:Same I I') (hH:Same H H') (iH:Same I' H') (new:∀ b o,I' b=some o->I b=some o\/H b=none):Rep K B G I' H' Y Γ where
 iH:=iH
 gH:=r.gH.trans hH
 len:=r.len
 slot:=λi q e=>by
  obtain ⟨v,e1,e2⟩:=r.slot i q e
  refine ⟨v,e1,?_⟩
  have mt:∀ ds,Mt K G I H ds v->Mt K G I' H' ds v:=λds h=>by
   obtain ⟨p,xs,h1,h2,h3,h4,h5⟩:=h
   refine ⟨p,xs,h1,hH _ _ h2,?_,h4,h5.mono hI⟩
   cases z:I' p with
   | none=>rfl
   | some o =>
    rcases new p o z with z1 | z1
    ·rw [h3] at z1;cases z1
    ·rw [h2] at z1;cases z1
  cases q with
  | val d=>exact Is.mono hI e2
  | dic ds =>
   obtain ⟨p,xs,h1,h2,h3,h4,h5⟩:=e2
   refine ⟨p,xs,h1,hH _ _ h2,?_,h4,h5.mono hI⟩
   cases z:I' p with
   | none=>rfl
   | some o =>
    rcases new p o z with z1 | z1
    ·rw [h3] at z1;cases z1
    ·rw [h2] at z1;cases z1
  | own ds=>exact mt ds e2
  | bor ds=>exact mt ds e2
  | fro ds=>obtain ⟨p,xs,f1,f2,f3,f4⟩:=e2;exact ⟨p,xs,f1,hI _ _ f2,f3,f4.mono hI⟩
 dist:=r.dist
 bor:=r.bor
theorem qD {H:Hp}{p:Addr} (h:H p=none) (o:HO):Same H (upd H p o):=λb u q=>by rw [pV (rh q h)];exact q
theorem Bh {I H:Hp}{p:Addr} (h:Same I H) (o:HO):Same (upd I p o) (upd H p o):=λb u q=>by
 by_cases e:b=p
 ·subst e;rw [qj] at q ⊢;exact q
 ·rw [pV e] at q ⊢;exact h b u q
theorem Rep.iFree (r:Rep K B G I H Y Γ){p:Addr} (h:H p=none):I p=none:=r.iH.free h
theorem Rep.gFree (r:Rep K B G I H Y Γ){p:Addr} (h:H p=none):G p=none:=r.gH.free h
theorem Rep.alloc (r:Rep K B G I H Y Γ){p:Addr} (h:H p=none) (o:HO):Rep K B G (upd I p o) (upd H p o) Y Γ :=
 r.ext (qD (r.iFree h) o) (qD h o) (Bh r.iH o) λb u q=>by
  by_cases e:b=p
  ·subst e;exact .inr h
  ·rw [pV e] at q;exact .inl q
theorem Rep.growAlloc (r:Rep K B G I H Y Γ){p:Addr} (h:H p=none) (o:HO):Grow G I (upd I p o):=⟨qD (r.iFree h) o,λb u q=>by
 by_cases e:b=p
 ·subst e;exact .inr (r.gFree h)
 ·rw [pV e] at q;exact .inl q⟩
theorem Rep.fresh (r:Rep K B G I H Y Γ){p:Addr} (h:H p=none) (o:HO):Rep K B G I (upd H p o) Y Γ :=
 r.ext (Same.refl _) (qD h o) (r.iH.trans (qD h o)) λb u q=>.inl q
def Apart (Y:L2.St) (Γ:Gm) (p:Addr):Prop:=∀ (j:Nat) (r:R),Γ[j]?=some (some r)->r.ptr=true->Y[j]?≠some (some (.ref p))
theorem Rep.apart (r:Rep K B G I H Y Γ){p:Addr} (h:H p=none):Apart Y Γ p:=λj q e m z=>by
 obtain ⟨v,e1,e2⟩:=r.slot j q e
 obtain ⟨p',xs,h1,h2,_,_⟩:=e2.mt m
 rw [e1] at z
 subst h1
 cases z
 rw [h] at h2;cases h2
theorem Rep.freeze (r:Rep K B G I H Y Γ){p:Addr}{xs:List V} (h:H p=some (.lst xs)) (hi:I p=none) (a:Apart Y Γ p):Rep K B G (upd I p (.lst xs)) H Y Γ where
 iH:=λb u q=>by
  by_cases e:b=p
  ·subst e;rw [qj] at q;cases q;exact h
  ·rw [pV e] at q;exact r.iH b u q
 gH:=r.gH
 len:=r.len
 slot:=λi q e=>by
  obtain ⟨v,e1,e2⟩:=r.slot i q e
  refine ⟨v,e1,?_⟩
  have up:=qD hi (.lst xs)
  have mt:q.ptr=true->∀ ds,Mt K G I H ds v->Mt K G (upd I p (.lst xs)) H ds v:=λm ds h=>by
   obtain ⟨p',bK,h1,h2,h3,h4,h5⟩:=h
   refine ⟨p',bK,h1,h2,?_,h4,h5.mono up⟩
   have ne:p'≠p:=λz=>a i q e m (by rw [e1,h1,z])
   rw [pV ne];exact h3
  cases q with
  | val d=>exact Is.mono up e2
  | dic ds =>
   obtain ⟨p',bK,h1,h2,h3,h4,h5⟩:=e2
   refine ⟨p',bK,h1,h2,?_,h4,h5.mono up⟩
   have ne:p'≠p:=λz=>a i _ e rfl (by rw [e1,h1,z])
   rw [pV ne];exact h3
  | own ds=>exact mt rfl ds e2
  | bor ds=>exact mt rfl ds e2
  | fro ds=>obtain ⟨p,xs,f1,f2,f3,f4⟩:=e2;exact ⟨p,xs,f1,up _ _ f2,f3,f4.mono up⟩
 dist:=r.dist
 bor:=r.bor
theorem growFreeze {G I:Hp}{p:Addr}{xs:List V} (hi:I p=none) (hg:G p=none):Grow G I (upd I p (.lst xs)):=⟨qD hi _,λb u q=>by
 by_cases e:b=p
 ·subst e;exact .inr hg
 ·rw [pV e] at q;exact .inl q⟩
theorem qu {α:Type}{l:List α}{i j:Nat}{a b:α} (h:(l.set i a)[j]?=some b):(j=i/\b=a/\i < l.length)\/(j≠i/\l[j]?=some b):=by
 by_cases e:j=i
 ·subst e
  by_cases hl:j < l.length
  ·rw [List.getElem?_set_self hl] at h;cases h;exact .inl ⟨rfl,rfl,hl⟩
  ·rw [List.getElem?_eq_none (by rw [length_set];omega)] at h;cases h
 ·rw [getElem?_set_ne (Ne.symm e)] at h;exact .inr ⟨e,h⟩
theorem Rep.forget (r:Rep K B G I H Y Γ) (i:Nat):Rep K B G I H Y (Γ.set i none) where
 iH:=r.iH
 gH:=r.gH
 len:=by rw [length_set];exact r.len
 slot:=λj q e=>by
  rcases qu e with ⟨_,z,_⟩ | ⟨_,z⟩
  ·cases z
  ·exact r.slot j q z
 dist:=λj k q q' v e e'=>by
  rcases qu e with ⟨_,z,_⟩ | ⟨_,z⟩
  ·cases z
  rcases qu e' with ⟨_,z',_⟩ | ⟨_,z'⟩
  ·cases z'
  exact r.dist j k q q' v z z'
 bor:=λj ds e=>by
  rcases qu e with ⟨_,z,_⟩ | ⟨_,z⟩
  ·cases z
  ·exact r.bor j ds z
theorem Rep.learn (r:Rep K B G I H Y Γ){i:Nat}{q:R}{v:V} (hv:Y[i]?=some (some v)) (ok:SlotOk K G I H q v) (ha:q.ptr=true->∀ p,v=.ref p->∀ (j:Nat) (r:R),j≠i->Γ[j]?=some (some r)->r.ptr=true->Y[j]?≠some (some (.ref p)))
  (hb:∀ ds,q=.bor ds->Y[i]?=B i):Rep K B G I H Y (Γ.set i (some q)) where
 iH:=r.iH
 gH:=r.gH
 len:=by rw [length_set];exact r.len
 slot:=λj q' e=>by
  rcases qu e with ⟨rfl,z,_⟩ | ⟨_,z⟩
  ·cases z;exact ⟨v,hv,ok⟩
  ·exact r.slot j q' z
 dist:=λj k q1 q2 w e e' m1 m2 s1 s2=>by
  rcases qu e with ⟨rfl,z,_⟩ | ⟨n1,z⟩
  ·cases z
   rcases qu e' with ⟨rfl,z',_⟩ | ⟨n2,z'⟩
   ·rfl
   ·obtain ⟨p,xs,e1,_⟩:=ok.mt m1
    rw [hv] at s1;cases s1
    exact absurd (e1▸s2) (ha m1 p e1 k q2 n2 z' m2)
  ·rcases qu e' with ⟨rfl,z',_⟩ | ⟨n2,z'⟩
   ·cases z'
    obtain ⟨p,xs,e1,_⟩:=ok.mt m2
    rw [hv] at s2;cases s2
    exact absurd (e1▸s1) (ha m2 p e1 j q1 n1 z m1)
   ·exact r.dist j k q1 q2 w z z' m1 m2 s1 s2
 bor:=λj ds e=>by
  rcases qu e with ⟨rfl,z,_⟩ | ⟨_,z⟩
  ·cases z;exact hb ds rfl
  ·exact r.bor j ds z
theorem Rep.store (r:Rep K B G I H Y Γ){i:Nat}{q:R}{v:V} (hi:i < Y.length) (ok:SlotOk K G I H q v) (ha:q.ptr=true->∀ p,v=.ref p->Apart Y Γ p) (hb:∀ ds,q≠.bor ds):Rep K B G I H (Y.set i (some v)) (Γ.set i (some q)):=by
 have r1:Rep K B G I H (Y.set i (some v)) (Γ.set i none):={
  iH:=r.iH,gH:=r.gH,len:=by rw [length_set,length_set];exact r.len
  slot:=λj q' e=>by
   rcases qu e with ⟨_,z,_⟩ | ⟨n,z⟩
   ·cases z
   ·rw [getElem?_set_ne (Ne.symm n)];exact r.slot j q' z
  dist:=λj k q1 q2 w e e' m1 m2 s1 s2=>by
   rcases qu e with ⟨_,z,_⟩ | ⟨n1,z⟩
   ·cases z
   rcases qu e' with ⟨_,z',_⟩ | ⟨n2,z'⟩
   ·cases z'
   rw [getElem?_set_ne (Ne.symm n1)] at s1
   rw [getElem?_set_ne (Ne.symm n2)] at s2
   exact r.dist j k q1 q2 w z z' m1 m2 s1 s2
  bor:=λj ds e=>by
   rcases qu e with ⟨_,z,_⟩ | ⟨n,z⟩
   ·cases z
   ·rw [getElem?_set_ne (Ne.symm n)];exact r.bor j ds z }
 have r2:=r1.learn (i:=i) (q:=q) (v:=v) (by rw [List.getElem?_set_self hi]) ok (λm p e j q' n z m' s=>by
  rcases qu z with ⟨_,z',_⟩ | ⟨_,z'⟩
  ·cases z'
  ·rw [getElem?_set_ne (Ne.symm n)] at s
   exact ha m p e j q' z' m' s) (λds e=>absurd e (hb ds))
 rw [set_set] at r2
 exact r2
theorem Rep.write (r:Rep K B G I H Y Γ){i:Nat}{q q':R}{p:Addr}{xs ys:List V}{ds:List D} (hq:Γ[i]?=some (some q)) (hm:q.ptr=true) (hs:Y[i]?=some (some (.ref p))) (h:H p=some (.lst xs)) (cW:q'=.own ds\/(q'=.bor ds/\∃ es,q=.bor es)) (hd:IsA K I ds ys) :
  Rep K B G I (upd H p (.lst ys)) Y (Γ.set i (some q')):=by
 obtain ⟨v,e1,e2⟩:=r.slot i q hq
 obtain ⟨p',bK,h1,h2,h3,h4⟩:=e2.mt hm
 have hp:p'=p:=by rw [hs] at e1;subst h1;cases e1;rfl
 subst hp
 have other:∀ (j:Nat) (r':R),j≠i->Γ[j]?=some (some r')->r'.ptr=true->Y[j]?≠some (some (.ref p')):=λj r' n z m s=>n (r.dist j i r' q _ z hq m hm s hs)
 have sI:Same I (upd H p' (.lst ys)):=λb u z=>by
  have ne:b≠p':=λe=>by subst e;rw [h3] at z;cases z
  rw [pV ne];exact r.iH b u z
 have sG:Same G (upd H p' (.lst ys)):=λb u z=>by
  have ne:b≠p':=λe=>by subst e;rw [h4] at z;cases z
  rw [pV ne];exact r.gH b u z
 have r1:Rep K B G I (upd H p' (.lst ys)) Y (Γ.set i none):={
  iH:=sI,gH:=sG,len:=by rw [length_set];exact r.len
  slot:=λj q1 e=>by
   rcases qu e with ⟨_,z,_⟩ | ⟨n,z⟩
   ·cases z
   obtain ⟨w,e3,e4⟩:=r.slot j q1 z
   refine ⟨w,e3,?_⟩
   have mt:q1.ptr=true->∀ ds,Mt K G I H ds w->Mt K G I (upd H p' (.lst ys)) ds w:=λm ds hh=>by
    obtain ⟨p2,iX,g1,g2,g3,g4,g5⟩:=hh
    refine ⟨p2,iX,g1,?_,g3,g4,g5⟩
    have ne:p2≠p':=λz2=>other j q1 n z m (by rw [e3,g1,z2])
    rw [pV ne];exact g2
   cases q1 with
   | val d=>exact e4
   | dic ds =>
    obtain ⟨p2,iX,g1,g2,g3,g4,g5⟩:=e4
    refine ⟨p2,iX,g1,?_,g3,g4,g5⟩
    have ne:p2≠p':=λz2=>other j _ n z rfl (by rw [e3,g1,z2])
    rw [pV ne];exact g2
   | own ds=>exact mt rfl ds e4
   | bor ds=>exact mt rfl ds e4
   | fro ds=>exact e4
  dist:=(r.forget i).dist
  bor:=(r.forget i).bor }
 have ko:Mt K G I (upd H p' (.lst ys)) ds (.ref p'):=⟨p',ys,rfl,qj,h3,h4,hd⟩
 have r2:=r1.learn (i:=i) (q:=q') (v:=.ref p') hs (by rcases cW with rfl | ⟨rfl,_⟩<;>exact ko) (λm p2 e j r' n z m' s=>by
  cases e
  rcases qu z with ⟨_,z',_⟩ | ⟨_,z'⟩
  ·cases z'
  ·exact other j r' n z' m' s) (λes e=>by
  rcases cW with rfl | ⟨rfl,es',rfl⟩
  ·cases e
  ·exact r.bor i es' hq)
 rw [set_set] at r2
 exact r2
end
end DL
namespace DL
open PySem PySem.Spec PyProof.Rows L2
noncomputable abbrev M (α:Type):=Gm->Option (α×Gm)
noncomputable def ret {α:Type} (a:α):M α:=λΓ=>some (a,Γ)
noncomputable def bnd {α β:Type} (m:M α) (f:α->M β):M β:=λΓ=>match m Γ with
 | some (a,Z)=>f a Z
 | none=>none
noncomputable def lft {α:Type} (o:Option α):M α:=λΓ=>match o with
 | some a=>some (a,Γ)
 | none=>none
theorem pO {α β:Type}{m:M α}{f:α->M β}{Γ:Gm}{b:β}{aa:Gm} (h:bnd m f Γ=some (b,aa)):∃ a Z,m Γ=some (a,Z)/\f a Z=some (b,aa):=by
 unfold bnd at h
 cases e:m Γ with
 | none=>rw [e] at h;cases h
 | some q=>obtain ⟨a,Z⟩:=q;rw [e] at h;exact ⟨a,Z,rfl,h⟩
theorem qe {α:Type}{o:Option α}{Γ aa:Gm}{a:α} (h:lft o Γ=some (a,aa)):o=some a/\aa=Γ:=by
 unfold lft at h
 cases o with
 | none=>cases h
 | some b=>cases h;exact ⟨rfl,rfl⟩
section
variable (K:PySem.W.Frag) (B:Nat->Option (Option V))
def KD (G I:Hp) (Y:L2.St) (aa:Gm) (d:D) (Q:VK):Prop:=∀ v H' I',Rep K B G I' H' Y aa->Grow G I I'->Is K I' d v->Q v H'
def KO (G I:Hp) (Y:L2.St) (aa:Gm) (ds:List D) (Q:VK):Prop:=∀ p xs H' I',Rep K B G I' H' Y aa->Grow G I I'->H' p=some (.lst xs)->I' p=none->G p=none->Apart Y aa p->IsA K I' ds xs->Q (.ref p) H'
def KT (G I:Hp) (Y:L2.St) (aa:Gm) (b:Bool) (Q:Bool->Hp->Prop):Prop:=∀ H' I',Rep K B G I' H' Y aa->Grow G I I'->Q b H'
def KA (G I:Hp) (Y:L2.St) (aa:Gm) (ds:List D) (Q:List V->Hp->Prop):Prop:=∀ vs H' I',Rep K B G I' H' Y aa->Grow G I I'->IsA K I' ds vs->Q vs H'
noncomputable def tD (g:M D):TE:=λY H Q=>∃ G I Γ d aa,Rep K B G I H Y Γ/\g Γ=some (d,aa)/\KD K B G I Y aa d Q
noncomputable def tO (g:M (List D)):TE:=λY H Q=>∃ G I Γ ds aa,Rep K B G I H Y Γ/\g Γ=some (ds,aa)/\KO K B G I Y aa ds Q
noncomputable def tTD (g:M Bool):TT:=λY H Q=>∃ G I Γ b aa,Rep K B G I H Y Γ/\g Γ=some (b,aa)/\KT K B G I Y aa b Q
noncomputable def tAD (g:M (List D)):TA:=λY H Q=>∃ G I Γ ds aa,Rep K B G I H Y Γ/\g Γ=some (ds,aa)/\KA K B G I Y aa ds Q
end
abbrev BB:=Nat->Option (Option V)
def ED (X:Cx) (B:BB) (e:Expr) (g:M D):Prop:=PE X e (tD X.K B g)
def EO (X:Cx) (B:BB) (e:Expr) (g:M (List D)):Prop:=PE X e (tO X.K B g)
def TD (X:Cx) (B:BB) (e:Expr) (g:M Bool):Prop:=PT X e (tTD X.K B g)
def TW (X:Cx) (B:BB) (e:Expr) (g:M Bool):Prop:=PW X e (tTD X.K B g)
def AD (X:Cx) (B:BB) (es:List Expr) (g:M (List D)):Prop:=PA X es (tAD X.K B g)
section
variable {X:Cx}{e:Expr}
theorem PE.imp {t t':TE} (h:PE X e t) (f:∀ Y H Q,t' Y H Q->t Y H Q):PE X e t':=λU s Y H Q I q=>h U s Y H Q I (f Y H Q q)
theorem PT.imp {t t':TT} (h:PT X e t) (f:∀ Y H Q,t' Y H Q->t Y H Q):PT X e t':=λU s Y H Q I q=>h U s Y H Q I (f Y H Q q)
theorem PW.imp {t t':TT} (h:PW X e t) (f:∀ Y H Q,t' Y H Q->t Y H Q):PW X e t':=λwh U s Y H Q I q=>h wh U s Y H Q I (f Y H Q q)
theorem PA.imp {es:List Expr}{t t':TA} (h:PA X es t) (f:∀ Y H Q,t' Y H Q->t Y H Q):PA X es t':=λpos U s Y H Q I q=>h pos U s Y H Q I (f Y H Q q)
end
section
variable {K:PySem.W.Frag}{B:BB}{G I I1 I2 H H1:Hp}{Y:L2.St}{Γ Z aa:Gm}{d:D}{ds:List D}{Q:VK}
theorem KD.now (k:KD K B G I Y Γ d Q) (r:Rep K B G I H Y Γ){v:V} (h:Is K I d v):Q v H:=k v H I r (Grow.refl _ _) h
theorem KD.after (k:KD K B G I Y aa d Q) (g:Grow G I I1):KD K B G I1 Y aa d Q:=λv H' I' r g' h=>k v H' I' r (g.trans g') h
theorem KO.after (k:KO K B G I Y aa ds Q) (g:Grow G I I1):KO K B G I1 Y aa ds Q:=λp xs H' I' r g'=>k p xs H' I' r (g.trans g')
theorem KT.after {b:Bool}{Q:Bool->Hp->Prop} (k:KT K B G I Y aa b Q) (g:Grow G I I1):KT K B G I1 Y aa b Q:=λH' I' r g'=>k H' I' r (g.trans g')
theorem KD.tup (k:KD K B G I Y Γ (.tup ds) Q) (r:Rep K B G I H Y Γ){p:Addr}{xs:List V} (hp:H p=none) (h:IsA K I ds xs):Q (.ref p) (upd H p (.tup xs)) :=
 k _ _ _ (r.alloc hp _) (r.growAlloc hp _) (Is.tup (SqT.of qj) (h.mono (qD (r.iFree hp) _)))
theorem KO.new (k:KO K B G I Y Γ ds Q) (r:Rep K B G I H Y Γ){p:Addr}{xs:List V} (hp:H p=none) (h:IsA K I ds xs):Q (.ref p) (upd H p (.lst xs)) :=
 k p xs _ I (r.fresh hp _) (Grow.refl _ _) qj (r.iFree hp) (r.gFree hp) (r.apart hp) h
end
section
variable {X:Cx}{B:BB}{a b c e:Expr}{es:List Expr}{pos:Pos}{ga gb gc:M D}
noncomputable def frz (g:M (List D)):M D:=bnd g λds=>ret (.lst ds)
theorem pX {g:M (List D)} (h:EO X B e g):ED X B e (frz g):=PE.imp h λY H Q q=>by
 obtain ⟨G,I,Γ,d,aa,r,e1,k⟩:=q
 obtain ⟨ds,Z,e2,e3⟩:=pO e1
 cases e3
 refine ⟨G,I,Γ,ds,_,r,e2,λp xs H' I' r' g h1 h2 h3 h4 h5=>?_⟩
 exact k _ _ _ (r'.freeze h1 h2 h4) (g.trans (growFreeze h2 h3)) (Is.lst (RdK.of qj) (h5.mono (qD h2 _)))
noncomputable def nm (i:Nat):M D:=λΓ=>match Γ[i]? with
 | some (some (.val d))=>some (d,Γ)
 | some (some (.own ds))=>some (.lst ds,Γ.set i (some (.val (.lst ds))))
 | some (some (.fro ds))=>some (.lst ds,Γ)
 | _=>none
theorem E7 {i:Nat}{x:Str} (h:PE X (.Name x pos) (tVar i)):ED X B (.Name x pos) (nm i):=PE.imp h λY H Q q=>by
 obtain ⟨G,I,Γ,d,aa,r,e1,k⟩:=q
 unfold nm at e1
 cases e:Γ[i]? with
 | none=>rw [e] at e1;cases e1
 | some o =>
  cases o with
  | none=>rw [e] at e1;cases e1
  | some q =>
   obtain ⟨v,h1,h2⟩:=r.slot i q e
   cases q with
   | val d'=>rw [e] at e1;cases e1;exact ⟨v,h1,k.now r h2⟩
   | bor ds=>rw [e] at e1;cases e1
   | dic ds=>rw [e] at e1;cases e1
   | fro ds=>rw [e] at e1;cases e1;obtain ⟨p,xs,rfl,f1,f2,f3⟩:=h2;exact ⟨_,h1,k.now r (Is.lst (RdK.of f1) f3)⟩
   | own ds =>
    rw [e] at e1;cases e1
    obtain ⟨p,xs,rfl,g1,g2,g3,g4⟩:=h2
    refine ⟨_,h1,k _ _ (upd I p (.lst xs)) ?_ (growFreeze g2 g3) (Is.lst (RdK.of qj) (g4.mono (qD g2 _)))⟩
    have ap:Apart Y (Γ.set i none) p:=λj q' z m s=>by
     rcases qu z with ⟨_,z',_⟩ | ⟨n,z'⟩
     ·cases z'
     ·exact n (r.dist j i q' (.own ds) _ z' e m rfl s h1)
    have r1:=(r.forget i).freeze g1 g2 ap
    have r2:=r1.learn (i:=i) (q:=.val (.lst ds)) h1 (Is.lst (RdK.of qj) (g4.mono (qD g2 _))) (λm=>nomatch m) (λ_ z=>nomatch z)
    rw [set_set] at r2
    exact r2
theorem ed_c {d:D}{v:V} (h:PE X e (tC v)) (hd:∀ I,Is X.K I d v):ED X B e (ret d):=PE.imp h λY H Q q=>by
 obtain ⟨G,I,Γ,d',aa,r,e1,k⟩:=q
 cases e1
 exact k.now r (hd I)
theorem pN {i j}:ED X B (.Constant (.int i) j pos) (ret (.int i)):=ed_c Fz λ_=>Is.int i
theorem qL {b j}:ED X B (.Constant (.bool b) j pos) (ret (.bl b)):=ed_c FC λ_=>Is.bl b
theorem rp {j}:ED X B (.Constant .none j pos) (ret .non):=ed_c KR λ_=>Is.non
theorem qx {x j}:ED X B (.Constant (.str x) j pos) (ret (.str x)):=ed_c BU λ_=>Is.str x
noncomputable def nilA:M (List D):=ret []
noncomputable def consA (g:M D) (t:M (List D)):M (List D):=bnd g λd=>bnd t λds=>ret (d::ds)
theorem ki:AD X B [] nilA:=PA.imp xI λY H Q q=>by
 obtain ⟨G,I,Γ,d,aa,r,e1,k⟩:=q
 cases e1
 exact k _ _ _ r (Grow.refl _ _) IsA.nil
theorem Fv {g:M D}{t:M (List D)} (ha:ED X B e g) (hr:AD X B es t) (hs:starEach (e::es) X.env=(false,eval e X.env)::starEach es X.env:=by rfl):AD X B (e::es) (consA g t) :=
 PA.imp (sx ha hr hs) λY H Q q=>by
  obtain ⟨G,I,Γ,d,aa,r,e1,k⟩:=q
  obtain ⟨d1,Z,e2,e3⟩:=pO e1
  obtain ⟨d2,ah,e4,e5⟩:=pO e3
  cases e5
  exact ⟨G,I,Γ,d1,Z,r,e2,λv H1 I1 r1 g1 h1=>⟨G,I1,Z,d2,_,r1,e4,λvs H2 I2 r2 g2 h2=>k _ _ _ r2 (g1.trans g2) (IsA.cons (h1.mono g2.up) h2)⟩⟩
noncomputable def lim:Nat:=1000000
theorem rJ {n:Nat} (h:n<=lim):n<=sizeLine:=le_trans h (by rw [sizeLine_eq];decide)
noncomputable def tupA (t:M (List D)):M D:=bnd t λds=>lft (if ds.length<=lim then some (.tup ds) else none)
noncomputable def lstA (t:M (List D)):M (List D):=bnd t λds=>lft (if ds.length<=lim then some ds else none)
theorem ql {α:Type}{c:Prop} [Decidable c]{a b:α} (h:(if c then some a else none)=some b):c/\b=a:=by
 by_cases hc:c
 ·rw [if_pos hc] at h;exact ⟨hc,(Option.some.inj h).symm⟩
 ·rw [if_neg hc] at h;cases h
theorem qO {x1}{t:M (List D)} (h:AD X B es t):ED X B (.Tuple es x1 pos) (tupA t):=PE.imp (BJ h) λY H Q q=>by
 obtain ⟨G,I,Γ,d,aa,r,e1,k⟩:=q
 obtain ⟨d1,Z,e2,e3⟩:=pO e1
 obtain ⟨e4,rfl⟩:=qe e3
 obtain ⟨hl,rfl⟩:=ql e4
 refine ⟨G,I,Γ,d1,_,r,e2,λvs H1 I1 r1 g1 h1=>⟨?_,λp hp=>(k.after g1).tup r1 hp h1⟩⟩
 rw [← h1.length];exact rJ hl
theorem rq {t:M (List D)} (h:AD X B es t):EO X B (.List es pos) (lstA t):=PE.imp (HK h) λY H Q q=>by
 obtain ⟨G,I,Γ,d,aa,r,e1,k⟩:=q
 obtain ⟨d1,Z,e2,e3⟩:=pO e1
 obtain ⟨e4,rfl⟩:=qe e3
 obtain ⟨hl,rfl⟩:=ql e4
 refine ⟨G,I,Γ,_,_,r,e2,λvs H1 I1 r1 g1 h1=>⟨?_,λp hp=>(k.after g1).new r1 hp h1⟩⟩
 rw [← h1.length];exact rJ hl
def OpD (K:PySem.W.Frag) (r:R2) (F:D->D->Option D):Prop:=∀ a b d,F a b=some d->∀ (B:BB) (G I H:Hp) (Y:L2.St) (Γ:Gm) (x y:V) (Q:VK),Rep K B G I H Y Γ->Is K I a x->Is K I b y->KD K B G I Y Γ d Q->r x y H Q
def OpO (K:PySem.W.Frag) (r:R2) (F:D->D->Option (List D)):Prop:=∀ a b d,F a b=some d->∀ (B:BB) (G I H:Hp) (Y:L2.St) (Γ:Gm) (x y:V) (Q:VK),Rep K B G I H Y Γ->Is K I a x->Is K I b y->KO K B G I Y Γ d Q->r x y H Q
def CallD (K:PySem.W.Frag) (r:List V->Hp->VK->Prop) (F:List D->Option D):Prop:=∀ ds d,F ds=some d->∀ (B:BB) (G I H:Hp) (Y:L2.St) (Γ:Gm) (xs:List V) (Q:VK),Rep K B G I H Y Γ->IsA K I ds xs->KD K B G I Y Γ d Q->r xs H Q
def CallO (K:PySem.W.Frag) (r:List V->Hp->VK->Prop) (F:List D->Option (List D)):Prop:=∀ ds d,F ds=some d->∀ (B:BB) (G I H:Hp) (Y:L2.St) (Γ:Gm) (xs:List V) (Q:VK),Rep K B G I H Y Γ->IsA K I ds xs->KO K B G I Y Γ d Q->r xs H Q
noncomputable def op2 {α:Type} (F:D->D->Option α) (ga gb:M D):M α:=bnd ga λx=>bnd gb λy=>lft (F x y)
noncomputable def fn1 {α:Type} (F:List D->Option α) (t:M (List D)):M α:=bnd t λds=>lft (F ds)
theorem t_op {r:R2}{F:D->D->Option D}{K:PySem.W.Frag} (h:OpD K r F):∀ Y H Q,tD K B (op2 F ga gb) Y H Q->tOp r (tD K B ga) (tD K B gb) Y H Q:=λY H Q q=>by
 obtain ⟨G,I,Γ,d,aa,r,e1,k⟩:=q
 obtain ⟨d1,Z,e2,e3⟩:=pO e1
 obtain ⟨d2,ah,e4,e5⟩:=pO e3
 obtain ⟨e6,rfl⟩:=qe e5
 exact ⟨G,I,Γ,d1,Z,r,e2,λv H1 I1 r1 g1 h1=>⟨G,I1,Z,d2,_,r1,e4,λw H2 I2 r2 g2 h2=>h _ _ _ e6 B G I2 H2 Y _ v w Q r2 (h1.mono g2.up) h2 (k.after (g1.trans g2))⟩⟩
theorem Iy {r:R2}{F:D->D->Option (List D)}{K:PySem.W.Frag} (h:OpO K r F):∀ Y H Q,tO K B (op2 F ga gb) Y H Q->tOp r (tD K B ga) (tD K B gb) Y H Q:=λY H Q q=>by
 obtain ⟨G,I,Γ,d,aa,r,e1,k⟩:=q
 obtain ⟨d1,Z,e2,e3⟩:=pO e1
 obtain ⟨d2,ah,e4,e5⟩:=pO e3
 obtain ⟨e6,rfl⟩:=qe e5
 exact ⟨G,I,Γ,d1,Z,r,e2,λv H1 I1 r1 g1 h1=>⟨G,I1,Z,d2,_,r1,e4,λw H2 I2 r2 g2 h2=>h _ _ _ e6 B G I2 H2 Y _ v w Q r2 (h1.mono g2.up) h2 (k.after (g1.trans g2))⟩⟩
theorem sC {op:Operator}{r:R2}{F:D->D->Option D} (ho:OpR X (binaryOp op) r) (h:OpD X.K r F) (ha:ED X B a ga) (hb:ED X B b gb):ED X B (.BinOp a op b pos) (op2 F ga gb):=PE.imp (BY ho ha hb) (t_op h)
theorem Fx {op:Operator}{r:R2}{F:D->D->Option (List D)} (ho:OpR X (binaryOp op) r) (h:OpO X.K r F) (ha:ED X B a ga) (hb:ED X B b gb):EO X B (.BinOp a op b pos) (op2 F ga gb):=PE.imp (BY ho ha hb) (Iy h)
theorem ya {op:CmpOp}{r:R2}{F:D->D->Option D} (ho:OpR X (compareOp op) r) (h:OpD X.K r F) (ha:ED X B a ga) (hb:ED X B b gb) (hm:behindInMarks op b=false:=by first | exact nomark _ | rfl):ED X B (.Compare a [op] [b] pos) (op2 F ga gb):=PE.imp (Jg ho ha hb hm) (t_op h)
theorem Gf {r:R2}{F:D->D->Option D} (ho:IxR X r) (h:OpD X.K r F) (ha:ED X B a ga) (hb:ED X B b gb) (hs:PlainIx b:=by exact λ_ _=>rfl):ED X B (.Subscript a b pos) (op2 F ga gb):=PE.imp (zA ho ha hb hs) (t_op h)
noncomputable def asB (d:D):Option Bool:=match d with
 | .bl b=>some b
 | _=>none
theorem sZ {d:D}{b:Bool} (h:asB d=some b):d=.bl b:=by
 cases d<;>simp [asB] at h
 rw [h]
noncomputable def tst (g:M D):M Bool:=bnd g λd=>lft (asB d)
theorem wZ {K:PySem.W.Frag}{g:M D}{t:TE} (ht:∀ Y H Q,tD K B g Y H Q->t Y H Q):∀ Y H Q,tTD K B (tst g) Y H Q->tTest t Y H Q:=λY H Q q=>by
 obtain ⟨G,I,Γ,d,aa,r,e1,k⟩:=q
 obtain ⟨d1,Z,e2,e3⟩:=pO e1
 obtain ⟨e4,rfl⟩:=qe e3
 have:=sZ e4
 subst this
 exact ht _ _ _ ⟨G,I,Γ,_,_,r,e2,λv H1 I1 r1 g1 h1=>⟨d,qw h1,k _ _ r1 g1⟩⟩
theorem rZ {op:CmpOp}{r:R2}{F:D->D->Option D} (ho:OpR X (compareOp op) r) (h:OpD X.K r F) (ha:ED X B a ga) (hb:ED X B b gb) (hm:behindInMarks op b=false:=by first | exact nomark _ | rfl):TD X B (.Compare a [op] [b] pos) (tst (op2 F ga gb)):=PT.imp (DQ ho ha hb hm) (wZ (t_op h))
theorem qF (ha:ED X B a ga) (he:∀ bz,isTrue a X.env bz=(do let v ← bz;standAt a.pos;holding [v] (truthy v)):=by intro _;rfl):TD X B a (tst ga):=PT.imp (KU ha he) (wZ λ_ _ _ z=>z)
noncomputable def chn (F F':D->D->Option D) (ga gb gc:M D):M D:=bnd ga λx=>bnd gb λy=>bnd (lft (F x y)) λz=>bnd (lft (asB z)) λk=>if k then bnd gc λw=>lft (F' y w) else ret (.bl false)
theorem z9 {r r':R2}{F F':D->D->Option D}{K:PySem.W.Frag} (h:OpD K r F) (h':OpD K r' F'):∀ Y H Q,tD K B (chn F F' ga gb gc) Y H Q->tChain r r' (tD K B ga) (tD K B gb) (tD K B gc) Y H Q:=λY H Q q=>by
 obtain ⟨G,I,Γ,d,aa,r,e1,k⟩:=q
 obtain ⟨d1,Z,e2,e3⟩:=pO e1
 obtain ⟨d2,ah,e4,e5⟩:=pO e3
 obtain ⟨d3,aK,e6,e7⟩:=pO e5
 obtain ⟨e8,rfl⟩:=qe e6
 obtain ⟨k1,aM,e9,f1⟩:=pO e7
 obtain ⟨f2,rfl⟩:=qe e9
 have:=sZ f2
 subst this
 refine ⟨G,I,Γ,d1,Z,r,e2,λv H1 I1 r1 g1 h1=>⟨G,I1,Z,d2,aM,r1,e4,λw H2 I2 r2 g2 h2=>h _ _ _ e8 B G I2 H2 Y aM v w _ r2 (h1.mono g2.up) h2 λu H3 I3 r3 g3 h3=>⟨k1,qw h3,?_⟩⟩⟩
 cases k1 with
 | false=>cases f1;exact iteF (k _ _ _ r3 (g1.trans (g2.trans g3)) (Is.bl false))
 | true =>
  obtain ⟨d4,bU,f3,f4⟩:=pO f1
  obtain ⟨f5,rfl⟩:=qe f4
  exact iteT ⟨G,I3,aM,d4,_,r3,f3,λz H4 I4 r4 g4 h4=>h' _ _ _ f5 B G I4 H4 Y _ w z Q r4 (h2.mono (g3.trans g4).up) h4 (k.after (g1.trans (g2.trans (g3.trans g4))))⟩
theorem G7 {op bA:CmpOp}{r r':R2}{F F':D->D->Option D} (ho:OpR X (compareOp op) r) (h:OpD X.K r F) (bN:OpR X (compareOp bA) r') (h':OpD X.K r' F') (ha:ED X B a ga) (hb:ED X B b gb) (hc:ED X B c gc)
  (hm:lastMarks [op,bA] [b,c]=false:=by with_unfolding_all rfl):ED X B (.Compare a [op,bA] [b,c] pos) (chn F F' ga gb gc):=PE.imp (DR ho bN ha hb hc hm) (z9 h h')
theorem Ap {op bA:CmpOp}{r r':R2}{F F':D->D->Option D} (ho:OpR X (compareOp op) r) (h:OpD X.K r F) (bN:OpR X (compareOp bA) r') (h':OpD X.K r' F') (ha:ED X B a ga) (hb:ED X B b gb) (hc:ED X B c gc)
  (hm:lastMarks [op,bA] [b,c]=false:=by with_unfolding_all rfl):TD X B (.Compare a [op,bA] [b,c] pos) (tst (chn F F' ga gb gc)):=PT.imp (Da ho bN ha hb hc hm) (wZ (z9 h h'))
noncomputable def andT (a b:M Bool):M Bool:=bnd a λk=>if k then b else ret false
noncomputable def orT (a b:M Bool):M Bool:=bnd a λk=>if k then ret true else b
noncomputable def notT (a:M Bool):M Bool:=bnd a λk=>ret (!k)
noncomputable def andV (a b:M D):M D:=bnd a λd=>bnd (lft (asB d)) λk=>if k then b else ret (.bl false)
noncomputable def notV (a:M D):M D:=bnd a λd=>bnd (lft (asB d)) λk=>ret (.bl (!k))
noncomputable def ifV (c:M Bool) (a b:M D):M D:=bnd c λk=>if k then a else b
variable {ta tb:M Bool}{aw:List Expr}
theorem vv (ha:TD X B a ta):TW X B (.BoolOp .And [a] pos) ta:=F5 ha
theorem rP (ha:TD X B a ta):TW X B (.BoolOp .Or [a] pos) ta:=Eo ha
theorem uZ (ha:TD X B a ta) (hb:TW X B (.BoolOp .And (b::aw) pos) tb):TW X B (.BoolOp .And (a::b::aw) pos) (andT ta tb):=PW.imp (GK ha hb) λY H Q q=>by
 obtain ⟨G,I,Γ,d,aa,r,e1,k⟩:=q
 obtain ⟨d1,Z,e2,e3⟩:=pO e1
 refine ⟨G,I,Γ,d1,Z,r,e2,λH1 I1 r1 g1=>?_⟩
 cases d1 with
 | true=>exact iteT ⟨G,I1,Z,d,aa,r1,e3,k.after g1⟩
 | false=>cases e3;exact iteF (k _ _ r1 g1)
theorem rB (ha:TD X B a ta) (hb:TW X B (.BoolOp .Or (b::aw) pos) tb):TW X B (.BoolOp .Or (a::b::aw) pos) (orT ta tb):=PW.imp (Ep ha hb) λY H Q q=>by
 obtain ⟨G,I,Γ,d,aa,r,e1,k⟩:=q
 obtain ⟨d1,Z,e2,e3⟩:=pO e1
 refine ⟨G,I,Γ,d1,Z,r,e2,λH1 I1 r1 g1=>?_⟩
 cases d1 with
 | false=>exact iteF ⟨G,I1,Z,d,aa,r1,e3,k.after g1⟩
 | true=>cases e3;exact iteT (k _ _ r1 g1)
theorem TW.td (h:TW X B e ta):TD X B e ta:=h _
theorem qC (ha:TD X B a ta):TD X B (.UnaryOp .Not a pos) (notT ta):=PT.imp (FP ha) λY H Q q=>by
 obtain ⟨G,I,Γ,d,aa,r,e1,k⟩:=q
 obtain ⟨d1,Z,e2,e3⟩:=pO e1
 cases e3
 exact ⟨G,I,Γ,d1,_,r,e2,λH1 I1 r1 g1=>k _ _ r1 g1⟩
theorem rN {op} (h:ED X B a ga):ED X B (.BoolOp op [a] pos) ga:=J5 h
theorem rm (ha:ED X B a ga) (hb:ED X B (.BoolOp .And (b::aw) pos) gb):ED X B (.BoolOp .And (a::b::aw) pos) (andV ga gb):=PE.imp (HL ha hb) λY H Q q=>by
 obtain ⟨G,I,Γ,d,aa,r,e1,k⟩:=q
 obtain ⟨d1,Z,e2,e3⟩:=pO e1
 obtain ⟨k1,ah,e4,e5⟩:=pO e3
 obtain ⟨e6,rfl⟩:=qe e4
 have:=sZ e6
 subst this
 refine ⟨G,I,Γ,_,_,r,e2,λv H1 I1 r1 g1 h1=>⟨k1,qw h1,?_⟩⟩
 cases k1 with
 | true=>exact iteT ⟨G,I1,_,d,aa,r1,e5,k.after g1⟩
 | false=>cases e5;exact iteF (k _ _ _ r1 g1 (Is.bl false))
theorem BP (ha:ED X B a ga):ED X B (.UnaryOp .Not a pos) (notV ga):=PE.imp (GS ha) λY H Q q=>by
 obtain ⟨G,I,Γ,d,aa,r,e1,k⟩:=q
 obtain ⟨d1,Z,e2,e3⟩:=pO e1
 obtain ⟨k1,ah,e4,e5⟩:=pO e3
 obtain ⟨e6,rfl⟩:=qe e4
 have:=sZ e6
 subst this
 cases e5
 exact ⟨G,I,Γ,_,_,r,e2,λv H1 I1 r1 g1 h1=>⟨k1,qw h1,k _ _ _ r1 g1 (Is.bl _)⟩⟩
theorem vz (hc:TD X B c ta) (ha:ED X B a ga) (hb:ED X B b gb):ED X B (.IfExp c a b pos) (ifV ta ga gb):=PE.imp (Hi hc ha hb) λY H Q q=>by
 obtain ⟨G,I,Γ,d,aa,r,e1,k⟩:=q
 obtain ⟨d1,Z,e2,e3⟩:=pO e1
 refine ⟨G,I,Γ,d1,Z,r,e2,λH1 I1 r1 g1=>?_⟩
 cases d1 with
 | true=>exact iteT ⟨G,I1,Z,d,aa,r1,e3,k.after g1⟩
 | false=>exact iteF ⟨G,I1,Z,d,aa,r1,e3,k.after g1⟩
variable {x:Str}{p:Pos}{id T:String}{r:List V->Hp->VK->Prop}{t:M (List D)}
theorem t_fn {F:List D->Option D}{K:PySem.W.Frag} (h:CallD K r F):∀ Y H Q,tD K B (fn1 F t) Y H Q->tCB r (tAD K B t) Y H Q:=λY H Q q=>by
 obtain ⟨G,I,Γ,d,aa,r,e1,k⟩:=q
 obtain ⟨d1,Z,e2,e3⟩:=pO e1
 obtain ⟨e4,rfl⟩:=qe e3
 exact ⟨G,I,Γ,d1,_,r,e2,λvs H1 I1 r1 g1 h1=>h _ _ e4 B G I1 H1 Y _ vs Q r1 h1 (k.after g1)⟩
theorem xR {F:List D->Option (List D)}{K:PySem.W.Frag} (h:CallO K r F):∀ Y H Q,tO K B (fn1 F t) Y H Q->tCB r (tAD K B t) Y H Q:=λY H Q q=>by
 obtain ⟨G,I,Γ,d,aa,r,e1,k⟩:=q
 obtain ⟨d1,Z,e2,e3⟩:=pO e1
 obtain ⟨e4,rfl⟩:=qe e3
 exact ⟨G,I,Γ,d1,_,r,e2,λvs H1 I1 r1 g1 h1=>h _ _ e4 B G I1 H1 Y _ vs Q r1 h1 (k.after g1)⟩
theorem sd {F:List D->Option D} (hc:CallR X (.builtin id) r) (h:CallD X.K r F) (hg:Gl X x) (hm:X.mg x=none) (hv:bootBuiltins x=some (.builtin id)) (ha:AD X B (e::es) t) (hn:x ≠ "__name__":=by decide) (aW:(x == ("__debug__":Str))=false:=by decide)
  (he:starEach (e::es) X.env=(false,eval e X.env)::starEach es X.env:=by rfl) (aA:(backTo pos (starEach es X.env)).any (·.1)=false:=by rfl):ED X B (.Call (.Name x p) (e::es) [] pos) (fn1 F t):=PE.imp (yn hc hg hm hv ha hn aW he aA) (t_fn h)
theorem J8 {F:List D->Option (List D)} (hc:CallR X (.builtin id) r) (h:CallO X.K r F) (hg:Gl X x) (hm:X.mg x=none) (hv:bootBuiltins x=some (.builtin id)) (ha:AD X B (e::es) t) (hn:x ≠ "__name__":=by decide) (aW:(x == ("__debug__":Str))=false:=by decide)
  (he:starEach (e::es) X.env=(false,eval e X.env)::starEach es X.env:=by rfl) (aA:(backTo pos (starEach es X.env)).any (·.1)=false:=by rfl):EO X B (.Call (.Name x p) (e::es) [] pos) (fn1 F t):=PE.imp (yn hc hg hm hv ha hn aW he aA) (xR h)
theorem wf {F:List D->Option D} (hc:CallR X (.type T) r) (h:CallD X.K r F) (hg:Gl X x) (hm:X.mg x=none) (hv:bootBuiltins x=some (.type T)) (ha:AD X B (e::es) t) (hn:x ≠ "__name__":=by decide) (aW:(x == ("__debug__":Str))=false:=by decide)
  (he:starEach (e::es) X.env=(false,eval e X.env)::starEach es X.env:=by rfl) (aA:(backTo pos (starEach es X.env)).any (·.1)=false:=by rfl):ED X B (.Call (.Name x p) (e::es) [] pos) (fn1 F t):=PE.imp (xz hc hg hm hv ha hn aW he aA) (t_fn h)
theorem DU {F:List D->Option (List D)} (hc:CallR X (.type T) r) (h:CallO X.K r F) (hg:Gl X x) (hm:X.mg x=none) (hv:bootBuiltins x=some (.type T)) (ha:AD X B (e::es) t) (hn:x ≠ "__name__":=by decide) (aW:(x == ("__debug__":Str))=false:=by decide)
  (he:starEach (e::es) X.env=(false,eval e X.env)::starEach es X.env:=by rfl) (aA:(backTo pos (starEach es X.env)).any (·.1)=false:=by rfl):EO X B (.Call (.Name x p) (e::es) [] pos) (fn1 F t):=PE.imp (xz hc hg hm hv ha hn aW he aA) (xR h)
end
inductive Fl where
 | nx | rt (r:R) | bk | ct
def ResOk (K:PySem.W.Frag) (G I H:Hp) (Y:L2.St) (Γ:Gm):R->V->Prop
 | .val d,v=>Is K I d v
 | .own ds,v=>∃ p xs,v=.ref p/\H p=some (.lst xs)/\I p=none/\G p=none/\Apart Y Γ p/\IsA K I ds xs
 | .bor _,_=>False
 | .fro ds,v=>∃ p xs,v=.ref p/\I p=some (.lst xs)/\G p=none/\IsA K I ds xs
 | .dic aP,v=>∃ p xs,v=.ref p/\H p=some (.dK xs)/\I p=none/\G p=none/\Apart Y Γ p/\IsK K I aP xs
def EndAt (K:PySem.W.Frag) (G I H:Hp) (Y:L2.St) (Γ:Gm) (E:Ends):Fl->Prop
 | .nx=>E.nx Y H
 | .bk=>E.bk Y H
 | .ct=>E.ct Y H
 | .rt r=>∀ v,ResOk K G I H Y Γ r v->E.rt v H
section
variable (K:PySem.W.Frag) (B:BB)
def KS (G I:Hp) (aa:Gm) (f:Fl) (E:Ends):Prop:=∀ ai H' I',Rep K B G I' H' ai aa->Grow G I I'->EndAt K G I' H' ai aa E f
noncomputable def tS (g:M Fl):TS:=λE Y H=>∃ G I Γ f aa,Rep K B G I H Y Γ/\g Γ=some (f,aa)/\KS K B G I aa f E
def KG (m:Nat) (Y:L2.St) (G I:Hp) (aa:Gm) (Q:L2.St->Hp->Prop):Prop:=∀ ai H' I',Rep K B G I' H' ai aa->Grow G I I'->ai.drop m=Y.drop m->Q ai H'
noncomputable def tGD (m:Nat) (f:D->M Unit):TG:=λv Y H Q=>∃ G I Γ d aa,Rep K B G I H Y Γ/\Is K I d v/\f d Γ=some ((),aa)/\KG K B m Y G I aa Q
noncomputable def tGs (m:Nat) (f:List D->M Unit):TGs:=λvs Y H Q=>∃ G I Γ ds aa,Rep K B G I H Y Γ/\IsA K I ds vs/\f ds Γ=some ((),aa)/\KG K B m Y G I aa Q
end
def SD (X:Cx) (B:BB) (st:Stmt) (g:M Fl):Prop:=PS X st (tS X.K B g)
def SDs (X:Cx) (B:BB) (st:List Stmt) (g:M Fl):Prop:=PSs X st (tS X.K B g)
def GD (X:Cx) (B:BB) (m:Nat) (tg:Expr) (f:D->M Unit):Prop:=PG X tg (tGD X.K B m f)
def GDs (X:Cx) (B:BB) (m:Nat) (gP:List Expr) (f:List D->M Unit):Prop:=PGs X gP (tGs X.K B m f)
section
variable {X:Cx}
theorem PS.imp {st:Stmt}{t t':TS} (h:PS X st t) (f:∀ E Y H,t' E Y H->t E Y H):PS X st t':=λU s Y H E I q=>h U s Y H E I (f E Y H q)
theorem PSs.imp {st:List Stmt}{t t':TS} (h:PSs X st t) (f:∀ E Y H,t' E Y H->t E Y H):PSs X st t':=λU s Y H E I q=>h U s Y H E I (f E Y H q)
theorem PG.imp {tg:Expr}{t t':TG} (h:PG X tg t) (f:∀ v Y H Q,t' v Y H Q->t v Y H Q):PG X tg t':=λU s Y H v u Q I r q=>h U s Y H v u Q I r (f v Y H Q q)
theorem PGs.imp {gP:List Expr}{t t':TGs} (h:PGs X gP t) (f:∀ v Y H Q,t' v Y H Q->t v Y H Q):PGs X gP t':=λU s Y H v u Q I r q=>h U s Y H v u Q I r (f v Y H Q q)
theorem PI.imp {tg iter:Expr}{t t':TI} (h:PI X tg iter t) (f:∀ Y H Q,t' Y H Q->t Y H Q):PI X tg iter t':=λU s Y H R I q=>h U s Y H R I (f Y H R q)
end
section
variable {K:PySem.W.Frag}{B:BB}{G I I1 H:Hp}{Γ aa:Gm}{f:Fl}{E:Ends}
theorem KS.after (k:KS K B G I aa f E) (g:Grow G I I1):KS K B G I1 aa f E:=λai H' I' r g'=>k ai H' I' r (g.trans g')
theorem KG.after {m:Nat}{Y cf:L2.St}{Q:L2.St->Hp->Prop} (k:KG K B m Y G I aa Q) (g:Grow G I I1) (hs:cf.drop m=Y.drop m):KG K B m cf G I1 aa Q:=λai H' I' r g' z=>k ai H' I' r (g.trans g') (z.trans hs)
end
section
variable {X:Cx}{B:BB}{a b c e:Expr}{es:List Expr}{pos:Pos}{ga gb gc:M D}{st:Stmt}{aw:List Stmt}{g h:M Fl}
noncomputable def seqS (g h:M Fl):M Fl:=bnd g λf=>match f with
 | .nx=>h
 | .rt r=>ret (.rt r)
 | .bk=>ret .bk
 | .ct=>ret .ct
theorem Dy:SDs X B [] (ret .nx):=PSs.imp Hc λE Y H q=>by
 obtain ⟨G,I,Γ,f,aa,r,e1,k⟩:=q
 cases e1
 exact k Y H I r (Grow.refl _ _)
theorem CT (h:SD X B st g):SDs X B [st] g:=AS h
theorem Je (h1:SD X B st g) (h2:SDs X B aw h):SDs X B (st::aw) (seqS g h):=PSs.imp (wS h1 h2) λE Y H q=>by
 obtain ⟨G,I,Γ,f,aa,r,e1,k⟩:=q
 obtain ⟨f1,Z,e2,e3⟩:=pO e1
 refine ⟨G,I,Γ,f1,Z,r,e2,λcf H1 I1 r1 g1=>?_⟩
 cases f1 with
 | nx=>exact ⟨G,I1,Z,f,aa,r1,e3,k.after g1⟩
 | bk=>cases e3;exact k cf H1 I1 r1 g1
 | ct=>cases e3;exact k cf H1 I1 r1 g1
 | rt v=>cases e3;exact k cf H1 I1 r1 g1
theorem r9:SD X B st (λ_=>none):=PS.imp Go λE Y H q=>by
 obtain ⟨G,I,Γ,f,aa,r,e1,k⟩:=q
 cases e1
noncomputable def dropS (g:M D):M Fl:=bnd g λ_=>ret .nx
theorem wq (he:ED X B e ga) (hs:swapsWith e none pos.line X.env=pure false:=by rfl):SD X B (.Expr e pos) (dropS ga):=PS.imp (y9 he hs) λE Y H q=>by
 obtain ⟨G,I,Γ,f,aa,r,e1,k⟩:=q
 obtain ⟨d1,Z,e2,e3⟩:=pO e1
 cases e3
 exact ⟨G,I,Γ,d1,_,r,e2,λv H1 I1 r1 g1 h1=>k Y H1 I1 r1 g1⟩
noncomputable def retS (g:M D):M Fl:=bnd g λd=>ret (.rt (.val d))
theorem pW (he:ED X B e ga):SD X B (.Return (some e) pos) (retS ga):=PS.imp (yq he) λE Y H q=>by
 obtain ⟨G,I,Γ,f,aa,r,e1,k⟩:=q
 obtain ⟨d1,Z,e2,e3⟩:=pO e1
 cases e3
 exact ⟨G,I,Γ,d1,_,r,e2,λv H1 I1 r1 g1 h1=>k Y H1 I1 r1 g1 v h1⟩
noncomputable def retO (g:M (List D)):M Fl:=bnd g λd=>ret (.rt (.own d))
theorem t3 {g:M (List D)} (he:EO X B e g):SD X B (.Return (some e) pos) (retO g):=PS.imp (yq he) λE Y H q=>by
 obtain ⟨G,I,Γ,f,aa,r,e1,k⟩:=q
 obtain ⟨d1,Z,e2,e3⟩:=pO e1
 cases e3
 exact ⟨G,I,Γ,d1,_,r,e2,λp xs H1 I1 r1 g1 h1 h2 h3 h4 h5=>k Y H1 I1 r1 g1 _ ⟨p,xs,rfl,h1,h2,h3,h4,h5⟩⟩
noncomputable def ifS (c:M Bool) (a b:M Fl):M Fl:=bnd c λk=>if k then a else b
theorem Ge {tc:M Bool}{sa sb:List Stmt} (hc:TD X B c tc) (ha:SDs X B sa g) (hb:SDs X B sb h):SD X B (.If c sa sb pos) (ifS tc g h):=PS.imp (CV hc ha hb) λE Y H q=>by
 obtain ⟨G,I,Γ,f,aa,r,e1,k⟩:=q
 obtain ⟨d1,Z,e2,e3⟩:=pO e1
 refine ⟨G,I,Γ,d1,Z,r,e2,λH1 I1 r1 g1=>?_⟩
 cases d1 with
 | true=>exact iteT ⟨G,I1,Z,f,aa,r1,e3,k.after g1⟩
 | false=>exact iteF ⟨G,I1,Z,f,aa,r1,e3,k.after g1⟩
noncomputable def putS (i:Nat) (q:R):M Unit:=λΓ=>if i < Γ.length then some ((),Γ.set i (some q)) else none
noncomputable def tgN (i:Nat) (d:D):M Unit:=putS i (.val d)
theorem uW {i:Nat}{q:R}{Γ aa:Gm}{u:Unit} (h:putS i q Γ=some (u,aa)):i < Γ.length/\aa=Γ.set i (some q):=by
 unfold putS at h
 obtain ⟨h1,h2⟩:=ql h
 cases h2
 exact ⟨h1,rfl⟩
theorem B8 {α:Type}:∀ {l:List α}{i m:Nat}{a:α},i < m->(l.set i a).drop m=l.drop m
 | [],_,_,_,_=>rfl
 | _::_,0,m+1,_,_=>rfl
 | _::r,i+1,m+1,a,h=>by
  rw [List.set_cons_succ,drop_succ_cons,drop_succ_cons]
  exact B8 (Nat.lt_of_succ_lt_succ h)
theorem gd_n {i m:Nat}{x:Str} (hN:X.N.Nodup) (hi:X.N[i]?=some x:=by rfl) (hx:locB X.env.scope x=true:=by rfl) (hf:fnB X x=true:=by rfl) (mB:i < m:=by decide):GD X B m (.Name x pos) (tgN i) :=
 PG.imp (II hN hi (locI hx) (fnI hf)) λv Y H Q q=>by
  obtain ⟨G,I,Γ,d,aa,r,hd,e1,k⟩:=q
  obtain ⟨hl,rfl⟩:=uW e1
  exact k _ _ I (r.store (by rw [r.len];exact hl) hd (λm=>nomatch m) (λ_ z=>nomatch z)) (Grow.refl _ _) (B8 mB)
noncomputable def tgNil (ds:List D):M Unit:=match ds with
 | []=>ret ()
 | _=>λ_=>none
noncomputable def tgCons (f:D->M Unit) (t:List D->M Unit) (ds:List D):M Unit:=match ds with
 | d::r=>bnd (f d) λ_=>t r
 | []=>λ_=>none
theorem uD {m:Nat}:GDs X B m [] tgNil:=PGs.imp FO λv Y H Q q=>by
 obtain ⟨G,I,Γ,ds,aa,r,hd,e1,k⟩:=q
 cases ds with
 | nil=>cases e1;exact ⟨hd.nil_inv,k _ _ I r (Grow.refl _ _) rfl⟩
 | cons d t=>cases e1
theorem rU {m:Nat}{f:D->M Unit}{t:List D->M Unit} (h1:GD X B m e f) (h2:GDs X B m es t) (hs:(assignEach (e::es) X.env).map (·.2)=assign e X.env::(assignEach es X.env).map (·.2):=by rfl):GDs X B m (e::es) (tgCons f t):=PGs.imp (GZ h1 h2 hs) λv Y H Q q=>by
 obtain ⟨G,I,Γ,ds,aa,r,hd,e1,k⟩:=q
 cases ds with
 | nil=>cases e1
 | cons d t =>
  obtain ⟨x,xs,rfl,h1,h2⟩:=hd.cons_inv
  obtain ⟨u,Z,e2,e3⟩:=pO e1
  exact ⟨x,xs,rfl,G,I,Γ,d,Z,r,h1,e2,λcf H1 I1 r1 g1 z=>⟨G,I1,Z,t,aa,r1,h2.mono g1.up,e3,k.after g1 z⟩⟩
noncomputable def tgTup (n:Nat) (t:List D->M Unit) (d:D):M Unit:=match d with
 | .tup ds=>if ds.length=n then t ds else λ_=>none
 | _=>λ_=>none
theorem uV {k m:Nat}{t:List D->M Unit}{n:Nat} (hc:X.calm=true) (h:GDs X B m es t) (hn:(assignEach es X.env).length=n:=by rfl) (iQ:(assignEach es X.env).findIdx? (·.1)=none:=by rfl):GD X B m (.Tuple es k pos) (tgTup n t) :=
 PG.imp (K3 hc h hn iQ) λv Y H Q q=>by
  obtain ⟨G,I,Γ,d,aa,r,hd,e1,k⟩:=q
  cases d with
  | tup ds =>
   obtain ⟨a,xs,rfl,h1,h2⟩:=qa hd
   unfold tgTup at e1
   by_cases hl:ds.length=n
   ·simp only [hl,if_true] at e1
    exact ⟨a,xs,rfl,Same.sqT r.iH h1,by rw [← h2.length];exact hl,G,I,Γ,ds,aa,r,h2,e1,k⟩
   ·simp only [hl,if_false] at e1;cases e1
  | _=>cases e1
noncomputable def asgS (g:M D) (f:D->M Unit):M Fl:=bnd g λd=>bnd (f d) λ_=>ret .nx
theorem Ex {m:Nat}{tg:Expr}{f:D->M Unit} (he:ED X B e ga) (hg:GD X B m tg f) (hs:swapsWithSole [tg] e pos.line X.env=pure false:=by rfl) (hw:swappedStores [tg] e X.env=pure none:=by rfl)
  (h1:(assignEach [tg] X.env).map (·.2)=[assign tg X.env]:=by rfl):SD X B (.Assign [tg] e pos) (asgS ga f):=PS.imp (AL he hg hs hw h1) λE Y H q=>by
 obtain ⟨G,I,Γ,f,aa,r,e1,k⟩:=q
 obtain ⟨d1,Z,e2,e3⟩:=pO e1
 obtain ⟨d2,ah,e4,e5⟩:=pO e3
 cases e5
 exact ⟨G,I,Γ,d1,Z,r,e2,λv H1 I1 r1 g1 h1=>⟨G,I1,Z,d1,_,r1,h1,e4,λaJ H2 I2 r2 g2 _=>k aJ H2 I2 r2 (g1.trans g2)⟩⟩
noncomputable def setV (i:Nat) (g:M D):M Fl:=bnd g λd=>bnd (putS i (.val d)) λ_=>ret .nx
noncomputable def setO (i:Nat) (g:M (List D)):M Fl:=bnd g λd=>bnd (putS i (.own d)) λ_=>ret .nx
theorem Dz {K:PySem.W.Frag}{i:Nat}:∀ E Y H,tS K B (setV i ga) E Y H->tAsg (tD K B ga) (gName i) E Y H:=λE Y H q=>by
 obtain ⟨G,I,Γ,f,aa,r,e1,k⟩:=q
 obtain ⟨d1,Z,e2,e3⟩:=pO e1
 obtain ⟨d2,ah,e4,e5⟩:=pO e3
 cases e5
 obtain ⟨hl,rfl⟩:=uW e4
 exact ⟨G,I,Γ,d1,Z,r,e2,λv H1 I1 r1 g1 h1=>k _ H1 I1 (r1.store (by rw [r1.len];exact hl) h1 (λm=>nomatch m) (λ_ z=>nomatch z)) g1⟩
theorem DJ {K:PySem.W.Frag}{i:Nat}{g:M (List D)}:∀ E Y H,tS K B (setO i g) E Y H->tAsg (tO K B g) (gName i) E Y H:=λE Y H q=>by
 obtain ⟨G,I,Γ,f,aa,r,e1,k⟩:=q
 obtain ⟨d1,Z,e2,e3⟩:=pO e1
 obtain ⟨d2,ah,e4,e5⟩:=pO e3
 cases e5
 obtain ⟨hl,rfl⟩:=uW e4
 exact ⟨G,I,Γ,d1,Z,r,e2,λp xs H1 I1 r1 g1 h1 h2 h3 h4 h5=>k _ H1 I1 (r1.store (by rw [r1.len];exact hl) ⟨p,xs,rfl,h1,h2,h3,h5⟩ (λ_ p' z=>by cases z;exact h4) (λ_ z=>nomatch z)) g1⟩
theorem By {i:Nat}{x:Str}{aL:Pos} (hN:X.N.Nodup) (he:ED X B e ga) (hi:X.N[i]?=some x:=by rfl) (hx:locB X.env.scope x=true:=by rfl) (hs:swapsWith e (some (.Name x aL)) pos.line X.env=pure false:=by rfl)
  (hf:fnB X x=true:=by rfl):SD X B (.Assign [.Name x aL] e pos) (setV i ga):=PS.imp (y0 hN hi (locI hx) he hs (fnI hf)) Dz
theorem vM {i:Nat}{x:Str}{aL:Pos}{g:M (List D)} (hN:X.N.Nodup) (he:EO X B e g) (hi:X.N[i]?=some x:=by rfl) (hx:locB X.env.scope x=true:=by rfl) (hs:swapsWith e (some (.Name x aL)) pos.line X.env=pure false:=by rfl)
  (hf:fnB X x=true:=by rfl):SD X B (.Assign [.Name x aL] e pos) (setO i g):=PS.imp (y0 hN hi (locI hx) he hs (fnI hf)) DJ
noncomputable def isMut (Γ:Gm) (i:Nat):Bool:=match Γ[i]? with
 | some (some r)=>r.mut
 | _=>false
noncomputable def wr (i:Nat) (F:List D->Option (List D)):M Unit:=λΓ=>match Γ[i]? with
 | some (some (.own ds))=>match F ds with
  | some es=>some ((),Γ.set i (some (.own es)))
  | none=>none
 | some (some (.bor ds))=>match F ds with
  | some es=>some ((),Γ.set i (some (.bor es)))
  | none=>none
 | _=>none
theorem t7 {K:PySem.W.Frag}{G I H:Hp}{Y:L2.St}{Γ:Gm}{i:Nat} (h:isMut Γ i=true) (r:Rep K B G I H Y Γ):∃ p xs,Y[i]?=some (some (.ref p))/\H p=some (.lst xs):=by
 unfold isMut at h
 cases e:Γ[i]? with
 | none=>rw [e] at h;cases h
 | some o =>
  cases o with
  | none=>rw [e] at h;cases h
  | some q =>
   rw [e] at h
   obtain ⟨v,h1,h2⟩:=r.slot i q e
   cases q with
   | val d=>cases h
   | fro d=>cases h
   | dic d=>cases h
   | own d=>obtain ⟨p,xs,rfl,h3,_⟩:=h2;exact ⟨p,xs,h1,h3⟩
   | bor d=>obtain ⟨p,xs,rfl,h3,_⟩:=h2;exact ⟨p,xs,h1,h3⟩
theorem yI {K:PySem.W.Frag}{G I H:Hp}{Y:L2.St}{Γ aa:Gm}{i:Nat}{F:List D->Option (List D)}{u:Unit} (h:wr i F Γ=some (u,aa)) (r:Rep K B G I H Y Γ) :
  ∃ p xs ds es,Y[i]?=some (some (.ref p))/\H p=some (.lst xs)/\IsA K I ds xs/\F ds=some es/\∀ ys,IsA K I es ys->Rep K B G I (upd H p (.lst ys)) Y aa:=by
 unfold wr at h
 cases e:Γ[i]? with
 | none=>rw [e] at h;cases h
 | some o =>
  cases o with
  | none=>rw [e] at h;cases h
  | some q =>
   obtain ⟨v,h1,h2⟩:=r.slot i q e
   cases q with
   | val d=>rw [e] at h;cases h
   | fro d=>rw [e] at h;cases h
   | dic d=>rw [e] at h;cases h
   | own ds =>
    rw [e] at h
    obtain ⟨p,xs,rfl,g1,g2,g3,g4⟩:=h2
    cases hf:F ds with
    | none=>simp only [hf] at h;cases h
    | some es =>
     simp only [hf] at h;cases h
     exact ⟨p,xs,ds,es,h1,g1,g4,hf,λys hy=>r.write e rfl h1 g1 (.inl rfl) hy⟩
   | bor ds =>
    rw [e] at h
    obtain ⟨p,xs,rfl,g1,g2,g3,g4⟩:=h2
    cases hf:F ds with
    | none=>simp only [hf] at h;cases h
    | some es =>
     simp only [hf] at h;cases h
     exact ⟨p,xs,ds,es,h1,g1,g4,hf,λys hy=>r.write e rfl h1 g1 (.inr ⟨rfl,ds,rfl⟩) hy⟩
noncomputable def mutS {α:Type} (i:Nat) (m:M α):M α:=λΓ=>if isMut Γ i then m Γ else none
theorem uo {α:Type}{i:Nat}{m:M α}{Γ:Gm}{r:α×Gm} (h:mutS i m Γ=some r):isMut Γ i=true/\m Γ=some r:=by
 unfold mutS at h
 by_cases hc:isMut Γ i=true
 ·rw [if_pos hc] at h;exact ⟨hc,h⟩
 ·rw [if_neg hc] at h;cases h
noncomputable def appF (d:D) (ds:List D):Option (List D):=if ds.length < lim then some (ds++[d]) else none
noncomputable def appS (i:Nat) (g:M D):M Fl:=mutS i (bnd g λd=>bnd (wr i (appF d)) λ_=>ret .nx)
theorem Ah {U:List (Addr×Obj)}{Y:L2.St}{H:Hp}{s:Shared}{l:Addr}{xs:List V} (I:Inv X U Y H s) (hH:RdK X.K H l xs):xs.length<=sizeLine/\∃ (ac:List Value) (n:Nat),Vals xs ac/\xs.length=ac.length/\s.heap.get? l=some { cls:=.type "list", data:=.seq ac.toArray n }:=by
 rcases hH with hH | ⟨ac,n,h1,h2,h3⟩
 ·obtain ⟨z,ac,n,r,e⟩:=hH.ok I.hok
  exact ⟨z,ac,n,r,r.length,e⟩
 ·exact ⟨by rw [h2.length];exact h3,ac,n,h2,h2.length,I.kIn l _ h1⟩
theorem GC {i:Nat}{x:Str}{p1 aQ av:Pos} (hv:PE X (.Name x p1) (tVar i)) (ha:ED X B e ga) (hs:swapsWith (.Call (.Attribute (.Name x p1) "append" aQ) [e] [] av) none pos.line X.env=pure false:=by rfl)
  (gQ:starEach [e] X.env=(false,eval e X.env)::starEach [] X.env:=by rfl)
  (bD:attributeBase (.Name x p1) "append" X.env (eval (.Name x p1) X.env)=eval (.Name x p1) X.env:=by rfl)
  (cj:((backTo av (starEach [e] X.env)).all (λx=>!x.1)&&(backToKw av (keywordEach [] X.env)).all (λx=>x.1.isSome)
   &&decide ([e].length+([]:List Keyword).length+(if ([]:List Keyword).isEmpty then 0 else 1) < 30))=true:=by rfl)
  (bE:(aQ.endLine == av.line)=true:=by rfl) (aZ:(backTo av (starEach [] X.env)).any (·.1)=false:=by rfl) :
  SD X B (.Expr (.Call (.Attribute (.Name x p1) "append" aQ) [e] [] av) pos) (appS i ga) :=
 PS.imp (y9 (uE PySem.F.plainAttrs_list PySem.F.slot_list_append PySem.F.type_list_append zp hv (sx ha xI gQ) bD cj bE gQ aZ) hs) λE Y H q=>by
  obtain ⟨G,I,Γ,f,aa,r,e1,k⟩:=q
  obtain ⟨hm,e1⟩:=uo e1
  obtain ⟨d1,Z,e2,e3⟩:=pO e1
  obtain ⟨d2,ah,e4,e5⟩:=pO e3
  cases e5
  obtain ⟨p,xs,h1,h2⟩:=t7 hm r
  refine ⟨_,h1,.inl ⟨rfl,xs,SqL.of h2⟩,G,I,Γ,d1,Z,r,e2,λv H1 I1 r1 g1 hd=>?_⟩
  obtain ⟨p',bK,ds,es,h3,h4,h5,h6,h7⟩:=yI e4 r1
  have hp:p'=p:=by rw [h1] at h3;cases h3;rfl
  subst hp
  obtain ⟨hl,rfl⟩:=ql h6
  refine ⟨p',bK,v,rfl,rfl,h4,?_,k Y _ I1 (h7 _ (IsA.append h5 (IsA.cons hd IsA.nil))) g1⟩
  rw [← h5.length]
  exact lt_of_lt_of_le hl (rJ (le_refl _))
noncomputable def asI (d:D):Option Int:=match d with
 | .int i=>some i
 | _=>none
theorem Bu {d:D}{i:Int} (h:asI d=some i):d=.int i:=by
 cases d<;>simp [asI] at h
 rw [h]
noncomputable def stF (k:Int) (d:D) (ds:List D):Option (List D):=(ixN ds.length k).map λj=>ds.set j d
noncomputable def stS (i:Nat) (gi gv:M D):M Fl:=bnd gv λd=>mutS i (bnd gi λn=>bnd (lft (asI n)) λk=>bnd (wr i (stF k d)) λ_=>ret .nx)
theorem vJ {i:Nat}{x:Str}{p1 p2:Pos}{ie:Expr}{gi:M D} (hv:PE X (.Name x p1) (tVar i)) (hi:ED X B ie gi) (he:ED X B e ga)
  (ha:∀ v,assign (.Subscript (.Name x p1) ie p2) X.env v=(do
   let ov ← holding [v] (eval (.Name x p1) X.env)
   let iv ← holding [v,ov] (eval ie X.env)
   standAt p2
   holding [v,ov,iv] (setItem ov iv v)
   release [v,ov,iv] []):=by intro _;rfl)
  (hs:swapsWithSole [.Subscript (.Name x p1) ie p2] e pos.line X.env=pure false:=by rfl) (hw:swappedStores [.Subscript (.Name x p1) ie p2] e X.env=pure none:=by rfl)
  (h1:(assignEach [.Subscript (.Name x p1) ie p2] X.env).map (·.2)=[assign (.Subscript (.Name x p1) ie p2) X.env]:=by rfl) :
  SD X B (.Assign [.Subscript (.Name x p1) ie p2] e pos) (stS i gi ga):=PS.imp (AL he (Hk hv hi Fi ha) hs hw h1) λE Y H q=>by
 obtain ⟨G,I,Γ,f,aa,r,e1,k⟩:=q
 obtain ⟨d,Z,e2,e3⟩:=pO e1
 obtain ⟨hm,e3⟩:=uo e3
 obtain ⟨n,ah,e4,e5⟩:=pO e3
 obtain ⟨z,aK,e6,e7⟩:=pO e5
 obtain ⟨e8,rfl⟩:=qe e6
 obtain ⟨u,aM,f1,f2⟩:=pO e7
 cases f2
 have:=Bu e8
 subst this
 refine ⟨G,I,Γ,d,Z,r,e2,λv H1 I1 r1 g1 hd=>?_⟩
 obtain ⟨p,xs,h1,h2⟩:=t7 hm r1
 refine ⟨_,h1,G,I1,Z,_,_,r1,e4,λw H2 I2 r2 g2 hw=>?_⟩
 obtain ⟨p',bK,ds,es,h3,h4,h5,h6,h7⟩:=yI f1 r2
 have hp:p'=p:=by rw [h1] at h3;cases h3;rfl
 subst hp
 unfold stF at h6
 cases hj:ixN ds.length z with
 | none=>rw [hj] at h6;cases h6
 | some j =>
  rw [hj] at h6
  cases h6
  exact ⟨p',bK,z,j,rfl,pY hw,h4,by rw [← h5.length];exact hj,k Y _ I2 (h7 _ (IsA.set (hd.mono g2.up) j h5)) (g1.trans g2)⟩
def Yields (K:PySem.W.Frag) (I:Hp) (ds:List D) (J:It):Prop:=∀ (i:Nat) (H1:Hp),Same I H1 →
 (∀ d,ds[i]?=some d->J.go i H1/\∀ x H2,J.yld i H1 x H2->(H2=H1/\Is K I d x)\/(∃ p es xs,d=.tup es/\x=.ref p/\H1 p=none/\H2=upd H1 p (.tup xs)/\IsA K I es xs))/\(ds.length<=i->J.stop i H1)
noncomputable def tI (K:PySem.W.Frag) (B:BB) (g:M (List D)):TI:=λY H R=>∃ G I Γ ds aa,Rep K B G I H Y Γ/\g Γ=some (ds,aa)/\∀ J H' I',Rep K B G I' H' Y aa->Grow G I I'->Yields K I' ds J->R J H'
def ITD (X:Cx) (B:BB) (tg iter:Expr) (g:M (List D)):Prop:=PI X tg iter (tI X.K B g)
theorem GE {tg l:Expr}{tl:TE} (hl:PE X l tl):PI X tg l (λY H R=>tl Y H λx H1=>(∃ a,x=.ref a/\(∃ xs,SqL X.K H1 a xs)/\R (Itl X.K a) H1)\/(∃ a,x=.ref a/\(∃ xs,SqT X.K H1 a xs)/\R (Itt X.K a) H1)):=by
 intro U s Y H R I h
 refine thn (hl U s Y H _ I h) λv s1 ⟨x,H1,I1,r1,q1⟩=>?_
 rcases q1 with ⟨a,e,⟨xs,hq⟩,q⟩ | ⟨a,e,⟨xs,hq⟩,q⟩
 ·subst e
  cases r1
  obtain ⟨ac,rv,p,hz⟩:=I1.list hq
  refine wpAny_pyIter_list p.isList ?_
  refine ⟨s1.heap.objs.size,[s1.heap.objs.size],_,_,H1,rfl,I1.kept (t':=s1.toks) λb o e=>get?_push_of_some _ e,DS a _,⟨_,get?_push_size _ rfl,rfl,rfl⟩,λb hb=>?_,q⟩
  have e:b=s1.heap.objs.size:=by simpa using hb
  subst e
  exact I1.fpOk (le_refl _) (I1.hok.fresh (le_refl _))
 ·subst e
  cases r1
  obtain ⟨ac,rv,p,hz⟩:=I1.tuple hq
  refine wpAny_pyIter_tuple (show s1.heap.IsTuple a ac.toArray from p) ?_
  refine ⟨s1.heap.objs.size,[s1.heap.objs.size],_,_,H1,rfl,I1.kept (t':=s1.toks) λb o e=>get?_push_of_some _ e,Ju a _,⟨_,get?_push_size _ rfl,rfl,rfl⟩,λb hb=>?_,q⟩
  have e:b=s1.heap.objs.size:=by simpa using hb
  subst e
  exact I1.fpOk (le_refl _) (I1.hok.fresh (le_refl _))
noncomputable def seqI (d:D):Option (List D):=match d with
 | .lst ds=>some ds
 | .tup ds=>some ds
 | _=>none
noncomputable def itS (g:M D):M (List D):=bnd g λd=>lft (seqI d)
theorem qv {tg:Expr} (ha:ED X B a ga):ITD X B tg a (itS ga):=PI.imp (GE ha) λY H R q=>by
 obtain ⟨G,I,Γ,ds,aa,r,e1,k⟩:=q
 obtain ⟨d,Z,e2,e3⟩:=pO e1
 obtain ⟨e4,rfl⟩:=qe e3
 refine ⟨G,I,Γ,d,_,r,e2,λv H1 I1 r1 g1 hd=>?_⟩
 cases d with
 | lst es =>
  cases e4
  obtain ⟨l,xs,rfl,h1,h2⟩:=qi hd
  refine .inl ⟨l,rfl,⟨xs,(Same.rdK r1.iH h1).sq⟩,k _ _ _ r1 g1 λi H2 s2=>⟨λd hd=>?_,λhi=>⟨xs,(Same.rdK s2 h1).sq,by rw [← h2.length];exact hi⟩⟩⟩
  obtain ⟨x,e5,e6⟩:=h2.get hd
  refine ⟨⟨xs,x,(Same.rdK s2 h1).sq,e5⟩,λy H3 hy=>.inl ⟨hy.1,?_⟩⟩
  have:=hy.2 xs ((Same.rdK s2 h1).sq)
  rw [e5] at this;cases this
  exact e6
 | tup es =>
  cases e4
  obtain ⟨l,xs,rfl,h1,h2⟩:=qa hd
  refine .inr ⟨l,rfl,⟨xs,Same.sqT r1.iH h1⟩,k _ _ _ r1 g1 λi H2 s2=>⟨λd hd=>?_,λhi=>⟨xs,Same.sqT s2 h1,by rw [← h2.length];exact hi⟩⟩⟩
  obtain ⟨x,e5,e6⟩:=h2.get hd
  refine ⟨⟨xs,x,Same.sqT s2 h1,e5⟩,λy H3 hy=>.inl ⟨hy.1,?_⟩⟩
  have:=hy.2 xs (Same.sqT s2 h1)
  rw [e5] at this;cases this
  exact e6
 | _=>cases e4
noncomputable def rngD (lo:Int) (n:Nat):List D:=(range n).map λ(k:Nat)=>D.int (lo+(k:Int))
theorem AJ {K:PySem.W.Frag}{I:Hp} (lo:Int) (n:Nat):Yields K I (rngD lo n) (Itr lo n):=λi H1 s1=>by
 refine ⟨λd hd=>?_,λhi=>?_⟩
 ·unfold rngD at hd
  rw [getElem?_map] at hd
  cases e:(range n)[i]? with
  | none=>rw [e] at hd;cases hd
  | some j =>
   rw [e] at hd
   cases hd
   obtain ⟨h1,h2⟩:=List.getElem?_eq_some_iff.mp e
   rw [List.getElem_range] at h2
   rw [length_range] at h1
   subst h2
   refine ⟨h1,λx H2 hy=>.inl ⟨hy.1,?_⟩⟩
   rw [hy.2]
   exact Is.int _
 ·unfold rngD at hi
  rw [length_map,length_range] at hi
  exact hi
noncomputable def rngI1 (ds:List D):Option (List D):=match ds with
 | [.int j]=>if -1000000<=j/\j<=1000000 then some (rngD 0 j.toNat) else none
 | _=>none
noncomputable def rngI2 (ds:List D):Option (List D):=match ds with
 | [.int i,.int j]=>if (-1000000<=i/\i<=1000000)/\-1000000<=j/\j<=1000000 then some (rngD i (j - i).toNat) else none
 | _=>none
theorem IL {ds es:List D} (h:rngI1 ds=some es):∃ j:Int,ds=[.int j]/\(-1000000<=j/\j<=1000000)/\es=rngD 0 j.toNat:=by
 unfold rngI1 at h
 split at h
 ·obtain ⟨h1,h2⟩:=ql h
  exact ⟨_,rfl,h1,h2⟩
 ·cases h
theorem DP {ds es:List D} (h:rngI2 ds=some es):∃ i j:Int,ds=[.int i,.int j]/\((-1000000<=i/\i<=1000000)/\-1000000<=j/\j<=1000000)/\es=rngD i (j - i).toNat:=by
 unfold rngI2 at h
 split at h
 ·obtain ⟨h1,h2⟩:=ql h
  exact ⟨_,_,rfl,h1,h2⟩
 ·cases h
theorem sO {tg:Expr}{p:Pos}{t:M (List D)} (hg:Gl X "range") (hm:X.mg "range"=none) (ha:AD X B [a] t) (hs:starEach [a] X.env=[(false,eval a X.env)]:=by rfl):ITD X B tg (.Call (.Name "range" p) [a] [] pos) (fn1 rngI1 t) :=
 PI.imp (Gd hg hm ha hs) λY H R q=>by
  obtain ⟨G,I,Γ,ds,aa,r,e1,k⟩:=q
  obtain ⟨d,Z,e2,e3⟩:=pO e1
  obtain ⟨e4,rfl⟩:=qe e3
  obtain ⟨j,rfl,⟨h1,h2⟩,rfl⟩:=IL e4
  refine ⟨G,I,Γ,_,_,r,e2,λvs H1 I1 r1 g1 hd=>?_⟩
  obtain ⟨x,rfl,hx⟩:=hd.one
  exact ⟨j,by rw [pY hx],by omega,by omega,k _ _ _ r1 g1 (AJ _ _)⟩
theorem Fc {tg:Expr}{p:Pos}{t:M (List D)} (hg:Gl X "range") (hm:X.mg "range"=none) (ha:AD X B [a,b] t) (hs:starEach [a,b] X.env=[(false,eval a X.env),(false,eval b X.env)]:=by rfl) (gK:starEach [b] X.env=[(false,eval b X.env)]:=by rfl) :
  ITD X B tg (.Call (.Name "range" p) [a,b] [] pos) (fn1 rngI2 t) :=
 PI.imp (K4 hg hm ha hs gK) λY H R q=>by
  obtain ⟨G,I,Γ,ds,aa,r,e1,k⟩:=q
  obtain ⟨d,Z,e2,e3⟩:=pO e1
  obtain ⟨e4,rfl⟩:=qe e3
  obtain ⟨i,j,rfl,h1,rfl⟩:=DP e4
  refine ⟨G,I,Γ,_,_,r,e2,λvs H1 I1 r1 g1 hd=>?_⟩
  obtain ⟨x,y,rfl,hx,hy⟩:=hd.two
  exact ⟨i,j,by rw [pY hx,pY hy],by omega,k _ _ _ r1 g1 (AJ _ _)⟩
noncomputable def forM (az:D->M Unit) (body:M Fl):List D->M Fl
 | []=>ret .nx
 | d::ds=>bnd (az d) λ_=>bnd body λf=>match f with
  | .nx=>forM az body ds
  | .ct=>forM az body ds
  | .bk=>ret .nx
  | .rt r=>ret (.rt r)
noncomputable def forS (it:M (List D)) (az:D->M Unit) (body:M Fl):M Fl:=bnd it λds=>forM az body ds
theorem Dc {m:Nat}{iter tg:Expr}{body:List Stmt}{it:M (List D)}{az:D->M Unit} (hp:PassesOwn (model X.prog X.w) X.A X.env X.xe) (hc:X.calm=true) (hi:ITD X B tg iter it) (hg:GD X B m tg az) (hb:SDs X B body g)
  (hs:∀ x,foldedSetIterable iter X.env x=pure x:=by intro _;rfl):SD X B (.For tg iter body [] pos) (forS it az g):=PS.imp (G' hp hc hi hg hb hs) λE Y H q=>by
 obtain ⟨G,I,Γ,f,aa,r,e1,k⟩:=q
 obtain ⟨ds,Z,e2,e3⟩:=pO e1
 refine ⟨G,I,Γ,ds,Z,r,e2,λJ H1 I1 r1 g1 y=>?_⟩
 refine ⟨λi m Y H=>∃ I2 ah,Rep X.K B G I2 H Y ah/\Grow G I1 I2/\forM az g (ds.drop i) ah=some (f,aa)/\i<=ds.length/\m=ds.length - i,⟨ds.length,I1,Z,r1,Grow.refl _ _,by simpa using e3,zero_le _,rfl⟩,?_⟩
 rintro i m' aJ H2 ⟨I2,ah,r2,g2,e4,ba,rfl⟩
 obtain ⟨yg,ys⟩:=y i H2 (g2.up.trans r2.iH)
 by_cases bc:i < ds.length
 ·have hd:ds.drop i=ds[i]::ds.drop (i+1):=drop_eq_getElem_cons bc
  obtain ⟨go,yld⟩:=yg ds[i] (getElem?_eq_getElem bc)
  rw [hd] at e4
  obtain ⟨u,aK,e5,e6⟩:=pO e4
  obtain ⟨fl,aM,e7,e8⟩:=pO e6
  refine .inr ⟨go,λai H'=>∃ I3,Rep X.K B G I3 H' ai aM/\Grow G I1 I3/\(fl=.nx\/fl=.ct),λai H' ⟨I3,r3,g3,hf⟩=>⟨ds.length - (i+1),by omega,I3,aM,r3,g3,?_,bc,rfl⟩,λx H3 hy=>?_⟩
  ·rcases hf with rfl | rfl<;>exact e8
  ·have kq:∀ I3,Rep X.K B G I3 H3 aJ ah->Grow G I2 I3->Is X.K I3 ds[i] x->tGD X.K B m az x aJ H3 λaJ H2=>tS X.K B g { E with nx:=λai H'=>∃ I3,Rep X.K B G I3 H' ai aM/\Grow G I1 I3/\(fl=.nx\/fl=.ct),ct:=λai H'=>∃ I3,Rep X.K B G I3 H' ai aM/\Grow G I1 I3/\(fl=.nx\/fl=.ct),bk:=E.nx } aJ H2:=by
    intro I3 r3 g3 hx
    refine ⟨G,I3,ah,ds[i],aK,r3,hx,e5,λgR H4 I4 r4 g4 _=>⟨G,I4,aK,fl,aM,r4,e7,λbY H5 I5 r5 g5=>?_⟩⟩
    have gg:Grow G I1 I5:=g2.trans (g3.trans (g4.trans g5))
    cases fl with
    | nx=>exact ⟨I5,r5,gg,.inl rfl⟩
    | ct=>exact ⟨I5,r5,gg,.inr rfl⟩
    | bk=>cases e8;exact k bY H5 I5 r5 (g1.trans gg)
    | rt v=>cases e8;exact k bY H5 I5 r5 (g1.trans gg)
   rcases yld x H3 hy with ⟨rfl,hx⟩ | ⟨p,es,xs,cV,rfl,cX,rfl,hx⟩
   ·exact kq I2 r2 (Grow.refl _ _) (hx.mono g2.up)
   ·refine kq _ (r2.alloc cX _) (r2.growAlloc cX _) ?_
    rw [cV]
    exact Is.tup (SqT.of qj) ((hx.mono g2.up).mono (qD (r2.iFree cX) _))
 ·have cY:i=ds.length:=by omega
  subst cY
  rw [List.drop_length] at e4
  cases e4
  exact .inl ⟨ys (le_refl _),k aJ H2 I2 r2 (g1.trans g2)⟩
end
noncomputable def fin:List R->Gm->Option (List R)
 | [],_=>some []
 | .val d::rs,_::Γ=>match fin rs Γ with
  | some l=>some (.val d::l)
  | none=>none
 | .bor _::rs,some (.bor ds)::Γ=>match fin rs Γ with
  | some l=>some (.bor ds::l)
  | none=>none
 | _,_=>none
noncomputable def flR:Fl->Option R
 | .rt r=>some r
 | .nx=>some (.val .non)
 | _=>none
noncomputable def fnD1 (n:Nat) (body:M Fl) (rs:List R):Option (R×List R) :=
 match body (rs.map some++replicate (n - rs.length) none) with
 | some (f,aa)=>match flR f with
  | some r=>match fin rs aa with
   | some l=>some (r,l)
   | none=>none
  | none=>none
 | none=>none
noncomputable def fnD (n ar:Nat) (body:M Fl) (rs:List R):Option (R×List R):=if rs.length=ar then fnD1 n body rs else none
noncomputable def noOwn:R->Bool
 | .own _=>false
 | _=>true
noncomputable def vB (vs:List V):BB:=λi=>(vs.map some)[i]?
noncomputable def spD (K:PySem.W.Frag) (g:List R->Option (R×List R)):Sp:=λvs H Q _=>∃ (G I:Hp) (rs:List R) (r:R) (aI:List R),Rep K (vB vs) G I H (vs.map some) (rs.map some)/\rs.all noOwn=true/\g rs=some (r,aI) ∧
 ∀ v H' I',Rep K (vB vs) G I' H' (vs.map some) (aI.map some)->Grow G I I'->ResOk K G I' H' (vs.map some) (aI.map some) r v->Q v H'
theorem xj:∀ {rs l:List R}{Γ:Gm},fin rs Γ=some l->l.length=rs.length/\∀ (i:Nat) (r:R),l[i]?=some r->(∃ d,r=.val d/\rs[i]?=some (.val d))\/(∃ ds,r=.bor ds/\Γ[i]?=some (some (.bor ds)))
 | [],l,Γ,h=>by
  rw [fin] at h;cases h
  exact ⟨rfl,λi r e=>by simp at e⟩
 | .val d::rs,l,[],h=>by simp [fin] at h
 | .bor d::rs,l,[],h=>by simp [fin] at h
 | .own d::rs,l,Γ,h=>by cases Γ<;>simp [fin] at h
 | .fro d::rs,l,Γ,h=>by cases Γ<;>simp [fin] at h
 | .dic d::rs,l,Γ,h=>by cases Γ<;>simp [fin] at h
 | .val d::rs,l,o::Γ,h=>by
  rw [fin] at h
  cases e:fin rs Γ with
  | none=>rw [e] at h;cases h
  | some l' =>
   rw [e] at h;cases h
   obtain ⟨h1,h2⟩:=xj e
   refine ⟨by simp [h1],λi r er=>?_⟩
   cases i with
   | zero=>simp at er;subst er;exact .inl ⟨d,rfl,rfl⟩
   | succ i =>
    rcases h2 i r (by simpa using er) with ⟨d',e1,e2⟩ | ⟨ds,e1,e2⟩
    ·exact .inl ⟨d',e1,by simpa using e2⟩
    ·exact .inr ⟨ds,e1,by simpa using e2⟩
 | .bor d::rs,l,none::Γ,h=>by simp [fin] at h
 | .bor d::rs,l,some (.val x)::Γ,h=>by simp [fin] at h
 | .bor d::rs,l,some (.own x)::Γ,h=>by simp [fin] at h
 | .bor d::rs,l,some (.fro x)::Γ,h=>by simp [fin] at h
 | .bor d::rs,l,some (.dic x)::Γ,h=>by simp [fin] at h
 | .bor d::rs,l,some (.bor x)::Γ,h=>by
  rw [fin] at h
  cases e:fin rs Γ with
  | none=>rw [e] at h;cases h
  | some l' =>
   rw [e] at h;cases h
   obtain ⟨h1,h2⟩:=xj e
   refine ⟨by simp [h1],λi r er=>?_⟩
   cases i with
   | zero=>simp at er;subst er;exact .inr ⟨x,rfl,rfl⟩
   | succ i =>
    rcases h2 i r (by simpa using er) with ⟨d',e1,e2⟩ | ⟨ds,e1,e2⟩
    ·exact .inl ⟨d',e1,by simpa using e2⟩
    ·exact .inr ⟨ds,e1,by simpa using e2⟩
theorem getMap {α β:Type}{f:α->β}{l:List α}{i:Nat}{b:β} (h:(l.map f)[i]?=some b):∃ a,l[i]?=some a/\b=f a:=by
 rw [getElem?_map] at h
 cases e:l[i]? with
 | none=>rw [e] at h;cases h
 | some a=>rw [e] at h;exact ⟨a,rfl,(Option.some.inj h).symm⟩
theorem sS {α:Type}{l:List α}{n i:Nat}{a:α} (h:(l.map some++replicate n (none:Option α))[i]?=some (some a)):l[i]?=some a:=by
 by_cases hi:i < (l.map some).length
 ·rw [getElem?_append_left hi] at h
  obtain ⟨b,e1,e2⟩:=getMap h
  cases e2;exact e1
 ·rw [List.getElem?_append_right (by omega),List.getElem?_replicate] at h
  split at h<;>cases h
section
variable {P:Program}{w:World}{K:PySem.W.Frag}{mg:Str->Option Value}{base:Heap}
theorem qc {x qual:Str}{st:Stmt}{f:Addr}{fd:FuncData}{N ps:List Str}{k:Nat} (F:Fun K x qual st f fd) (S:FnScope N ps (defScope st)) (g:M Fl)
  (hb:∀ (ao:Value) (A:Around) (outer:List Env) (s:Shared) (H:Hp) (E:XK) (B:BB),Room k (A.deeper (envOfC qual (defScope st) s.heap.objs.size f ao)) →
   SDs (cxOf CX0 P w K mg base N qual (defScope st) f ao A outer s H E).nox B (defBody st) g):FnOk P w K mg base CX0 (k+1) f fd ps (spD K (fnD N.length ps.length g)):=by
 refine F.ok S (λvs H Q E h=>?_) (λao A outer s H vs Q E hr h=>?_)
 ·obtain ⟨_,_,rs,_,_,h1,_,h2,_⟩:=h
  unfold fnD at h2
  by_cases hc:rs.length=ps.length
  ·rw [← hc];simpa using h1.len
  ·rw [if_neg hc] at h2;cases h2
 ·obtain ⟨G,I,rs,r,aI,h2,h3,h4,h5⟩:=h
  have hl:vs.length=rs.length:=by simpa using h2.len
  refine ⟨_,hb ao A outer s H E (λi=>(L2.start N vs)[i]?) hr,?_⟩
  unfold fnD at h4
  have hc:rs.length=ps.length:=by
   by_cases hc:rs.length=ps.length
   ·exact hc
   ·rw [if_neg hc] at h4;cases h4
  rw [if_pos hc] at h4
  unfold fnD1 at h4
  cases e1:g (rs.map some++replicate (N.length - rs.length) none) with
  | none=>rw [e1] at h4;cases h4
  | some q =>
   obtain ⟨fl,aa⟩:=q
   rw [e1] at h4
   dsimp only at h4
   cases e2:flR fl with
   | none=>rw [e2] at h4;cases h4
   | some rr =>
    rw [e2] at h4
    dsimp only at h4
    cases e3:fin rs aa with
    | none=>rw [e3] at h4;cases h4
    | some l =>
     rw [e3] at h4
     obtain ⟨rfl,rfl⟩:rr=r/\l=aI:=by cases h4;exact ⟨rfl,rfl⟩
     have gS:∀ {i:Nat}{v:V},vs[i]?=some v->(L2.start N vs)[i]?=some (some v):=λ{i v} e=>by
      unfold L2.start
      rw [getElem?_append_left (by rw [length_map];exact (List.getElem?_eq_some_iff.mp e).1),getElem?_map,e];rfl
     have iY:∀ {i:Nat}{v:V},(L2.start N vs)[i]?=some (some v)->vs[i]?=some v:=λ{i v} e=>sS e
     have kt:Rep K (λi=>(L2.start N vs)[i]?) G I H (L2.start N vs) (rs.map some++replicate (N.length - rs.length) none):={
      iH:=h2.iH,gH:=h2.gH
      len:=by unfold L2.start;rw [length_append,length_append,length_map,length_map,length_replicate,length_replicate,hl]
      slot:=λi q e=>by
       have e':=sS e
       obtain ⟨v,e4,e5⟩:=h2.slot i q (by rw [getElem?_map,e'];rfl)
       obtain ⟨v',e6,e7⟩:=getMap e4
       cases e7
       exact ⟨v,gS e6,e5⟩
      dist:=λi j q q' v e e' m m' s1 s2=>h2.dist i j q q' v (by rw [getElem?_map,sS e];rfl) (by rw [getElem?_map,sS e'];rfl) m m' (by rw [getElem?_map,iY s1];rfl) (by rw [getElem?_map,iY s2];rfl)
      bor:=λi ds e=>rfl }
     obtain ⟨f1,f2⟩:=xj e3
     -- behind the body
     have back:∀ {ai:L2.St}{H' I':Hp},Rep K (λi=>(L2.start N vs)[i]?) G I' H' ai aa->Grow G I I'->Rep K (vB vs) G I' H' (vs.map some) (l.map some):=λ{ai H' I'} r' g'=>{
      iH:=r'.iH,gH:=r'.gH
      len:=by rw [length_map,length_map,f1,hl]
      slot:=λi q e=>by
       obtain ⟨q',e4,e5⟩:=getMap e
       cases e5
       rcases f2 i q e4 with ⟨d,rfl,e6⟩ | ⟨ds,rfl,e6⟩
       ·obtain ⟨v,e7,e8⟩:=h2.slot i (.val d) (by rw [getElem?_map,e6];rfl)
        exact ⟨v,e7,Is.mono g'.up e8⟩
       ·obtain ⟨v,e7,e8⟩:=r'.slot i _ e6
        have e9:=r'.bor i ds e6
        rw [e7] at e9
        exact ⟨v,by rw [getElem?_map,iY e9.symm];rfl,e8⟩
      dist:=λi j q q' v e e' m m' s1 s2=>by
       obtain ⟨_,e4,e5⟩:=getMap e
       cases e5
       obtain ⟨_,e6,e7⟩:=getMap e'
       cases e7
       rcases f2 i q e4 with ⟨d,rfl,_⟩ | ⟨ds,rfl,e8⟩
       ·cases m
       rcases f2 j q' e6 with ⟨d,rfl,_⟩ | ⟨bZ,rfl,e9⟩
       ·cases m'
       obtain ⟨v1,a1,_⟩:=getMap s1
       obtain ⟨v2,a2,a3⟩:=getMap s2
       have b1:=r'.bor i ds e8
       have b2:=r'.bor j bZ e9
       rename_i b3
       cases b3
       cases a3
       rw [gS a1] at b1
       rw [gS a2] at b2
       exact r'.dist i j _ _ v e8 e9 rfl rfl b1 b2
      bor:=λi ds e=>rfl }
     have ap:∀ {ai:L2.St}{H' I':Hp}{p:Addr},Rep K (λi=>(L2.start N vs)[i]?) G I' H' ai aa->Apart ai aa p->Apart (vs.map some) (l.map some) p:=λ{ai H' I' p} r' a i q e m z=>by
      obtain ⟨_,e4,e5⟩:=getMap e
      cases e5
      rcases f2 i q e4 with ⟨d,rfl,_⟩ | ⟨ds,rfl,e8⟩
      ·cases m
      obtain ⟨v1,a1,a2⟩:=getMap z
      cases a2
      exact a i _ e8 rfl ((r'.bor i ds e8).trans (gS a1))
     refine ⟨G,I,_,fl,aa,kt,e1,λai H' I' r' g'=>?_⟩
     cases fl with
     | nx=>cases e2;exact h5 _ H' I' (back r' g') g' (show Is K I' D.non V.non from Is.non)
     | bk=>cases e2
     | ct=>cases e2
     | rt r0 =>
      cases e2
      intro v hv
      refine h5 v H' I' (back r' g') g' ?_
      cases rr with
      | val d=>exact hv
      | bor d=>exact hv
      | fro d=>exact hv
      | dic d =>
       obtain ⟨p,xs,b1,b2,b3,b4,b5,b6⟩:=hv
       exact ⟨p,xs,b1,b2,b3,b4,ap r' b5,b6⟩
      | own d =>
       obtain ⟨p,xs,b1,b2,b3,b4,b5,b6⟩:=hv
       exact ⟨p,xs,b1,b2,b3,b4,ap r' b5,b6⟩
end
mutual
noncomputable def noL:D->Bool
 | .tup ds=>noLA ds
 | .lst _=>false
 | _=>true
noncomputable def noLA:List D->Bool
 | []=>true
 | d::ds=>noL d&&noLA ds
end
noncomputable def tupOf (I0 I:Hp):Hp:=λb=>match I0 b with
 | some o=>some o
 | none=>match I b with
  | some (.lst _)=>none
  | o=>o
theorem zG {I0 I:Hp}:Same I0 (tupOf I0 I):=λb o e=>by unfold tupOf;rw [e]
theorem xU {I0 I:Hp}{b:Addr}{o:HO} (h:tupOf I0 I b=some o):I0 b=some o\/(I0 b=none/\I b=some o/\∀ xs,o≠.lst xs):=by
 unfold tupOf at h
 cases e:I0 b with
 | some o'=>rw [e] at h;cases h;exact .inl rfl
 | none =>
  rw [e] at h
  cases e1:I b with
  | none=>rw [e1] at h;cases h
  | some o' =>
   rw [e1] at h
   cases o'<;>first | (cases h;exact .inr ⟨rfl,rfl,λxs z=>by cases z⟩) | cases h
theorem AB {I0 I:Hp} (s:Same I0 I){b:Addr}{o:HO} (h:I b=some o) (n:∀ xs,o≠.lst xs):tupOf I0 I b=some o:=by
 unfold tupOf
 cases e:I0 b with
 | some o'=>rw [s b o' e] at h;exact h
 | none =>
  simp only [h]
  split
  ·rename_i z
   cases z
   exact absurd rfl (n _)
  ·rfl
mutual
theorem Jm {K:PySem.W.Frag}{I0 I:Hp} (s:Same I0 I):∀ (d:D) (v:V),noL d=true->Is K I d v->Is K (tupOf I0 I) d v
 | .non,_,_,h=>by rw [Is] at h ⊢;exact h
 | .bl _,_,_,h=>by rw [Is] at h ⊢;exact h
 | .int _,_,_,h=>by rw [Is] at h ⊢;exact h
 | .str _,_,_,h=>by rw [Is] at h ⊢;exact h
 | .lst _,_,n,_=>by simp [noL] at n
 | .tup ds,v,n,h=>by
  rw [noL] at n
  obtain ⟨a,xs,rfl,h1,h2⟩:=qa h
  refine Is.tup ?_ (yV s ds xs n h2)
  rcases h1 with (h1 | ⟨o,h1⟩) | h1
  ·exact .inl (.inl (AB s h1 λxs z=>by cases z))
  ·exact .inl (.inr ⟨o,AB s h1 λxs z=>by cases z⟩)
  ·exact .inr h1
theorem yV {K:PySem.W.Frag}{I0 I:Hp} (s:Same I0 I):∀ (ds:List D) (xs:List V),noLA ds=true->IsA K I ds xs->IsA K (tupOf I0 I) ds xs
 | [],xs,_,h=>by rw [h.nil_inv];exact IsA.nil
 | d::ds,xs,n,h=>by
  rw [noLA,and_eq_true] at n
  obtain ⟨x,r,rfl,h1,h2⟩:=h.cons_inv
  exact IsA.cons (Jm s d x n.1 h1) (yV s ds r n.2 h2)
end
section
variable {X:Cx}{B:BB}{e:Expr}{es:List Expr}{pos p:Pos}{x:Str}{k:Nat}{f:Addr}{fd:FuncData}{ps:List Str}{g:List R->Option (R×List R)}{t:M (List D)}
noncomputable def cvF (g:List R->Option (R×List R)) (ds:List D):Option D:=match g (ds.map .val) with
 | some (.val d,_)=>some d
 | some (.fro d,_)=>some (.lst d)
 | _=>none
noncomputable def coF (g:List R->Option (R×List R)) (ds:List D):Option (List D):=match g (ds.map .val) with
 | some (.own d,_)=>some d
 | some (.fro d,_)=>if noLA d=true then some d else none
 | _=>none
theorem tP {K:PySem.W.Frag}{G I H:Hp}{Y:L2.St}{Γ:Gm}{ds:List D}{vs:List V} (r:Rep K B G I H Y Γ) (h:IsA K I ds vs):Rep K (vB vs) H I H (vs.map some) ((ds.map R.val).map some) where
 iH:=r.iH
 gH:=Same.refl _
 len:=by rw [length_map,length_map,length_map,h.length]
 slot:=λi q e=>by
  obtain ⟨_,e1,e2⟩:=getMap e
  cases e2
  obtain ⟨d,e3,rfl⟩:=getMap e1
  obtain ⟨v,e4,e5⟩:=h.get e3
  exact ⟨v,by rw [getElem?_map,e4];rfl,e5⟩
 dist:=λi j q q' v e e' m=>by
  obtain ⟨_,e1,e2⟩:=getMap e
  cases e2
  obtain ⟨d,e3,rfl⟩:=getMap e1
  cases m
 bor:=λi ds e=>rfl
theorem tQ (ds:List D):(ds.map R.val).all noOwn=true:=by
 induction ds with
 | nil=>rfl
 | cons d r ih=>rw [map_cons,all_cons,ih];rfl
theorem xC {K:PySem.W.Frag}{B':BB}{G I I' H H':Hp}{Y ai:L2.St}{Γ aa:Gm} (r:Rep K B G I H Y Γ) (r':Rep K B' H I' H' ai aa) (g':Grow H I I'):Rep K B G I' H' Y Γ/\Grow G I I' :=
 ⟨r.ext g'.up r'.gH r'.iH g'.new,g'.up,λb o e=>(g'.new b o e).imp (λz=>z) λz=>r.gFree z⟩
theorem t_cv {K:PySem.W.Frag}{E:XK}:∀ Y H Q,tD K B (fn1 (cvF g) t) Y H Q->tCall (spD K g) [] E (tAD K B t) Y H Q:=λY H Q q=>by
 obtain ⟨G,I,Γ,d,aa,r,e1,kk⟩:=q
 obtain ⟨ds,Z,e2,e3⟩:=pO e1
 obtain ⟨e4,rfl⟩:=qe e3
 refine ⟨G,I,Γ,ds,_,r,e2,λvs H1 I1 r1 g1 h1=>?_⟩
 show spD K g (vs++[]) H1 Q E
 rw [append_nil]
 unfold cvF at e4
 cases e5:g (ds.map .val) with
 | none=>rw [e5] at e4;cases e4
 | some q =>
  obtain ⟨rr,aI⟩:=q
  rw [e5] at e4
  cases rr with
  | val d' =>
   cases e4
   refine ⟨H1,I1,ds.map .val,.val d,aI,tP r1 h1,tQ ds,e5,λv H' I' r' g' hv=>?_⟩
   obtain ⟨r2,g2⟩:=xC r1 r' g'
   exact kk v H' I' r2 (g1.trans g2) hv
  | fro d' =>
   cases e4
   refine ⟨H1,I1,ds.map .val,.fro d',aI,tP r1 h1,tQ ds,e5,λv H' I' r' g' hv=>?_⟩
   obtain ⟨r2,g2⟩:=xC r1 r' g'
   obtain ⟨p,xs,rfl,f1,_,f3⟩:=hv
   exact kk _ H' I' r2 (g1.trans g2) (Is.lst (RdK.of f1) f3)
  | own _=>cases e4
  | bor _=>cases e4
  | dic _=>cases e4
theorem t_co {K:PySem.W.Frag}{E:XK}:∀ Y H Q,tO K B (fn1 (coF g) t) Y H Q->tCall (spD K g) [] E (tAD K B t) Y H Q:=λY H Q q=>by
 obtain ⟨G,I,Γ,d,aa,r,e1,kk⟩:=q
 obtain ⟨ds,Z,e2,e3⟩:=pO e1
 obtain ⟨e4,rfl⟩:=qe e3
 refine ⟨G,I,Γ,ds,_,r,e2,λvs H1 I1 r1 g1 h1=>?_⟩
 show spD K g (vs++[]) H1 Q E
 rw [append_nil]
 unfold coF at e4
 cases e5:g (ds.map .val) with
 | none=>rw [e5] at e4;cases e4
 | some q =>
  obtain ⟨rr,aI⟩:=q
  rw [e5] at e4
  cases rr with
  | own d' =>
   cases e4
   refine ⟨H1,I1,ds.map .val,.own d,aI,tP r1 h1,tQ ds,e5,λv H' I' r' g' hv=>?_⟩
   obtain ⟨r2,g2⟩:=xC r1 r' g'
   obtain ⟨q,xs,rfl,b2,b3,b4,b5,b6⟩:=hv
   exact kk q xs H' I' r2 (g1.trans g2) b2 b3 (r1.gFree b4) (r1.apart b4) b6
  | fro d' =>
   obtain ⟨nl,e4⟩:=ql e4
   subst e4
   refine ⟨H1,I1,ds.map .val,.fro d,aI,tP r1 h1,tQ ds,e5,λv H' I' r' g' hv=>?_⟩
   obtain ⟨p,xs,rfl,f1,f2,f3⟩:=hv
   have new:∀ b o,tupOf I1 I' b=some o->I1 b=some o\/H1 b=none:=λb o e=>by
    rcases xU e with z | ⟨_,z,_⟩
    ·exact .inl z
    ·exact g'.new b o z
   have r2:Rep K B G (tupOf I1 I') H' Y _:=r1.ext zG r'.gH (λb o e=>by
    rcases xU e with z | ⟨_,z,_⟩
    ·exact r'.iH b o (g'.up b o z)
    ·exact r'.iH b o z) new
   refine kk p xs H' (tupOf I1 I') r2 (g1.trans ⟨zG,λb o e=>(new b o e).imp (λz=>z) λz=>r1.gFree z⟩) (r'.iH p _ f1) ?_ (r1.gFree f2) (r1.apart f2) (yV g'.up _ _ nl f3)
   cases e:tupOf I1 I' p with
   | none=>rfl
   | some o =>
    rcases xU e with z | ⟨_,z,zn⟩
    ·rw [r1.iFree f2] at z;cases z
    ·rw [f1] at z;cases z;exact absurd rfl (zn _)
  | val _=>cases e4
  | bor _=>cases e4
  | dic _=>cases e4
variable {oY:Nat}{b:Expr}
theorem pU (F:FnOk X.prog X.w X.K X.mg X.base CX0 k f fd ps (spD X.K g)) (hr:Room k X.A) (hg:Gl X x) (hm:X.mg x=some (.ref f)) (hk:PySem.W.keepIn X.K (.ref f)=true) (hb:Binds X.K fd ps []) (ha:AD X B (e::es) t)
  (aW:(x == ("__debug__":Str))=false:=by decide) (he:starEach (e::es) X.env=(false,eval e X.env)::starEach es X.env:=by rfl) (aA:(backTo pos (starEach es X.env)).any (·.1)=false:=by rfl) :
  ED X B (.Call (.Name x p) (e::es) [] pos) (fn1 (cvF g) t):=PE.imp (wj F hr hg hm hk hb .nil pass0 ha aW he aA) t_cv
theorem ua (F:FnOk X.prog X.w X.K X.mg X.base CX0 k f fd ps (spD X.K g)) (hr:Room k X.A) (hg:Gl X x) (hm:X.mg x=some (.ref f)) (hk:PySem.W.keepIn X.K (.ref f)=true) (hb:Binds X.K fd ps []) (ha:AD X B (e::es) t)
  (aW:(x == ("__debug__":Str))=false:=by decide) (he:starEach (e::es) X.env=(false,eval e X.env)::starEach es X.env:=by rfl) (aA:(backTo pos (starEach es X.env)).any (·.1)=false:=by rfl) :
  EO X B (.Call (.Name x p) (e::es) [] pos) (fn1 (coF g) t):=PE.imp (wj F hr hg hm hk hb .nil pass0 ha aW he aA) t_co
noncomputable def hide (H:Hp) (p:Addr):Hp:=λb=>if b=p then none else H b
theorem BF {H:Hp}{p:Addr}:hide H p p=none:=by unfold hide;rw [if_pos rfl]
theorem sh {H:Hp}{p b:Addr} (h:b≠p):hide H p b=H b:=by unfold hide;rw [if_neg h]
theorem Hv {H:Hp}{p:Addr}:Same (hide H p) H:=λb o e=>by
 by_cases h:b=p
 ·subst h;rw [BF] at e;cases e
 ·rw [sh h] at e;exact e
noncomputable def bcF (g:List R->Option (R×List R)) (c ds:List D):Option (R×List D):=match g (.bor c::ds.map .val) with
 | some (r,.bor c'::_)=>some (r,c')
 | _=>none
noncomputable def callB (i:Nat) (g:List R->Option (R×List R)) (t:M (List D)):M R:=mutS i (bnd t λds=>λZ=>match Z[i]? with
 | some (some (.own c))=>match bcF g c ds with
  | some (r,c')=>some (r,Z.set i (some (.own c')))
  | none=>none
 | some (some (.bor c))=>match bcF g c ds with
  | some (r,c')=>some (r,Z.set i (some (.bor c')))
  | none=>none
 | _=>none)
noncomputable def asV (r:R):Option D:=match r with
 | .val d=>some d
 | _=>none
noncomputable def asO (r:R):Option (List D):=match r with
 | .own d=>some d
 | _=>none
noncomputable def cbV (i:Nat) (g:List R->Option (R×List R)) (t:M (List D)):M D:=bnd (callB i g t) λr=>lft (asV r)
theorem Rep.extBut {K:PySem.W.Frag}{G I I' H H':Hp}{Y:L2.St}{Γ:Gm} (r:Rep K B G I H Y Γ){q:Addr} (ap:Apart Y Γ q) (gq:G q=none) (iq:I q=none) (oZ:I' q=none) (hI:Same I I') (hH:∀ b o,H b=some o->b≠q->H' b=some o) (iH:Same I' H')
  (new:∀ b o,I' b=some o->I b=some o\/H b=none\/b=q):Rep K B G I' H' Y Γ where
 iH:=iH
 gH:=λb o e=>hH b o (r.gH b o e) (λz=>by subst z;rw [gq] at e;cases e)
 len:=r.len
 slot:=λi qr e=>by
  obtain ⟨v,e1,e2⟩:=r.slot i qr e
  refine ⟨v,e1,?_⟩
  have mt:qr.ptr=true->∀ ds,Mt K G I H ds v->Mt K G I' H' ds v:=λm ds h=>by
   obtain ⟨p2,xs,h1,h2,h3,h4,h5⟩:=h
   have ne:p2≠q:=λz=>ap i qr e m (by rw [e1,h1,z])
   refine ⟨p2,xs,h1,hH _ _ h2 ne,?_,h4,h5.mono hI⟩
   cases z:I' p2 with
   | none=>rfl
   | some o =>
    rcases new p2 o z with z1 | z1 | z1
    ·rw [h3] at z1;cases z1
    ·rw [h2] at z1;cases z1
    ·exact absurd z1 ne
  cases qr with
  | val d=>exact Is.mono hI e2
  | dic ds =>
   obtain ⟨p2,xs,h1,h2,h3,h4,h5⟩:=e2
   have ne:p2≠q:=λz=>ap i _ e rfl (by rw [e1,h1,z])
   refine ⟨p2,xs,h1,hH _ _ h2 ne,?_,h4,h5.mono hI⟩
   cases z:I' p2 with
   | none=>rfl
   | some o =>
    rcases new p2 o z with z1 | z1 | z1
    ·rw [h3] at z1;cases z1
    ·rw [h2] at z1;cases z1
    ·exact absurd z1 ne
  | own ds=>exact mt rfl ds e2
  | bor ds=>exact mt rfl ds e2
  | fro ds=>obtain ⟨p,xs,f1,f2,f3,f4⟩:=e2;exact ⟨p,xs,f1,hI _ _ f2,f3,f4.mono hI⟩
 dist:=r.dist
 bor:=r.bor
theorem borrow {K:PySem.W.Frag}{G I H:Hp}{Y:L2.St}{Γ:Gm}{i:Nat}{q q':R}{c c' ds:List D}{rr:R}{ws:List V}{Q:VK}{E:XK} (r:Rep K B G I H Y Γ) (hq:Γ[i]?=some (some q)) (hc:(q=.own c/\q'=.own c')\/(q=.bor c/\q'=.bor c')) (hd:IsA K I ds ws){v0:V} (fL:Y[i]?=some (some v0))
  (hg:bcF g c ds=some (rr,c')) (k:∀ v H' I',Rep K B G I' H' Y (Γ.set i (some q'))->Grow G I I'->ResOk K G I' H' Y (Γ.set i (some q')) rr v->Q v H'):spD K g (v0::ws) H Q E:=by
 obtain ⟨v,e1,e2⟩:=r.slot i q hq
 rw [fL] at e1
 cases e1
 have hm:q.ptr=true:=by rcases hc with ⟨rfl,_⟩ | ⟨rfl,_⟩<;>rfl
 have mt:Mt K G I H c v0:=by rcases hc with ⟨rfl,_⟩ | ⟨rfl,_⟩<;>exact e2
 obtain ⟨a,xs,rfl,h1,h2,h3,h4⟩:=mt
 unfold bcF at hg
 cases e3:g (.bor c::ds.map .val) with
 | none=>rw [e3] at hg;cases hg
 | some z =>
  obtain ⟨r0,aI⟩:=z
  rw [e3] at hg
  cases aI with
  | nil=>cases hg
  | cons y aI =>
   cases y with
   | val _=>cases hg
   | own _=>cases hg
   | fro _=>cases hg
   | dic _=>cases hg
   | bor c2 =>
    cases hg
    refine ⟨hide H a,I,.bor c::ds.map .val,rr,.bor c'::aI,?_,by rw [all_cons,tQ];rfl,e3,λv H' I' r' g' hv=>?_⟩
    ·have rv:=tP r hd
     exact {
      iH:=r.iH,gH:=Hv
      len:=by rw [map_cons,map_cons,length_cons,length_cons,rv.len]
      slot:=λj qr e=>by
       cases j with
       | zero=>cases e;exact ⟨_,rfl,a,xs,rfl,h1,h2,BF,h4⟩
       | succ j =>
        obtain ⟨w,e4,e5⟩:=rv.slot j qr (by simpa using e)
        refine ⟨w,by simpa using e4,?_⟩
        have e9:((ds.map R.val).map some)[j]?=some (some qr):=e
        obtain ⟨z,f1,f2⟩:=getMap e9
        cases f2
        obtain ⟨d,f3,rfl⟩:=getMap f1
        exact e5
      dist:=λj l qr o0 w e e' m m' s1 s2=>by
       have only:∀ {j:Nat}{qr:R},((R.bor c::ds.map R.val).map some)[j]?=some (some qr)->qr.ptr=true->j=0:=λ{j qr} e m=>by
        cases j with
        | zero=>rfl
        | succ j =>
         have e9:((ds.map R.val).map some)[j]?=some (some qr):=e
         obtain ⟨z,f1,f2⟩:=getMap e9
         cases f2
         obtain ⟨d,f3,rfl⟩:=getMap f1
         cases m
       rw [only e m,only e' m']
      bor:=λj es e=>rfl }
    ·obtain ⟨w,e4,e5⟩:=r'.slot 0 (.bor c') rfl
     cases e4
     obtain ⟨a',bK,e6,f1,f2,f3,f4⟩:=e5
     cases e6
     have b7:Apart Y (Γ.set i none) a:=λj r1 z m s=>by
      rcases qu z with ⟨_,z',_⟩ | ⟨n,z'⟩
      ·cases z'
      ·exact n (r.dist j i r1 q _ z' hq m hm s fL)
     have r1:=(r.forget i).extBut (q:=a) b7 h3 h2 f2 g'.up (λb o e n=>r'.gH b o (by rw [sh n];exact e)) r'.iH (λb o e=>by
      rcases g'.new b o e with z | z
      ·exact .inl z
      ·by_cases n:b=a
       ·exact .inr (.inr n)
       ·rw [sh n] at z;exact .inr (.inl z))
     have r2:=r1.learn (i:=i) (q:=q') (v:=.ref a) fL (by rcases hc with ⟨_,rfl⟩ | ⟨_,rfl⟩<;>exact ⟨a,bK,rfl,f1,f2,h3,f4⟩) (λm p2 e j r' n z m' s=>by
      cases e
      exact b7 j r' z m' s) (λes z=>by
      rcases hc with ⟨_,rfl⟩ | ⟨rfl,rfl⟩
      ·cases z
      ·exact r.bor i c hq)
     rw [set_set] at r2
     have g2:Grow G I I':=⟨g'.up,λb o e=>by
      rcases g'.new b o e with z | z
      ·exact .inl z
      ·by_cases n:b=a
       ·subst n;exact .inr h3
       ·rw [sh n] at z;exact .inr (r.gFree z)⟩
     refine k v H' I' r2 g2 ?_
     cases rr with
     | val d=>exact hv
     | bor d=>exact hv
     | fro d =>
      obtain ⟨p2,ys,b1,b2,b3,b4⟩:=hv
      have ne:p2≠a:=λz=>by rw [z,f2] at b2;cases b2
      rw [sh ne] at b3
      exact ⟨p2,ys,b1,b2,r.gFree b3,b4⟩
     | dic d =>
      obtain ⟨p2,ys,b1,b2,b3,b4,b5,b6⟩:=hv
      have ne:p2≠a:=λz=>b5 0 (.bor c') rfl rfl (by rw [z];rfl)
      rw [sh ne] at b4
      refine ⟨p2,ys,b1,b2,b3,r.gFree b4,λj r3 z m s=>?_,b6⟩
      rcases qu z with ⟨rfl,z',_⟩ | ⟨n,z'⟩
      ·rw [fL] at s;cases s;exact ne rfl
      ·exact r.apart b4 j r3 z' m s
     | own d =>
      obtain ⟨p2,ys,b1,b2,b3,b4,b5,b6⟩:=hv
      have ne:p2≠a:=λz=>b5 0 (.bor c') rfl rfl (by rw [z];rfl)
      rw [sh ne] at b4
      refine ⟨p2,ys,b1,b2,b3,r.gFree b4,λj r3 z m s=>?_,b6⟩
      rcases qu z with ⟨rfl,z',_⟩ | ⟨n,z'⟩
      ·rw [fL] at s;cases s;exact ne rfl
      ·exact r.apart b4 j r3 z' m s
theorem JP {i:Nat}{t:M (List D)}{Γ aa:Gm}{rr:R} (h:callB i g t Γ=some (rr,aa)):isMut Γ i=true/\∃ ds Z q q' c c',t Γ=some (ds,Z)/\Z[i]?=some (some q)/\((q=.own c/\q'=.own c')\/(q=.bor c/\q'=.bor c'))/\bcF g c ds=some (rr,c')/\aa=Z.set i (some q'):=by
 obtain ⟨hm,h⟩:=uo h
 obtain ⟨ds,Z,e1,e2⟩:=pO h
 refine ⟨hm,ds,Z,?_⟩
 cases e:Z[i]? with
 | none=>simp only [e] at e2;cases e2
 | some o =>
  cases o with
  | none=>simp only [e] at e2;cases e2
  | some q =>
   cases q with
   | val d=>simp only [e] at e2;cases e2
   | fro d=>simp only [e] at e2;cases e2
   | dic d=>simp only [e] at e2;cases e2
   | own c =>
    simp only [e] at e2
    cases e3:bcF g c ds with
    | none=>simp only [e3] at e2;cases e2
    | some z =>
     obtain ⟨r0,c'⟩:=z
     simp only [e3] at e2
     cases e2
     exact ⟨.own c,.own c',c,c',e1,rfl,.inl ⟨rfl,rfl⟩,e3,rfl⟩
   | bor c =>
    simp only [e] at e2
    cases e3:bcF g c ds with
    | none=>simp only [e3] at e2;cases e2
    | some z =>
     obtain ⟨r0,c'⟩:=z
     simp only [e3] at e2
     cases e2
     exact ⟨.bor c,.bor c',c,c',e1,rfl,.inr ⟨rfl,rfl⟩,e3,rfl⟩
theorem EM {K:PySem.W.Frag}{E:XK}{i:Nat}:∀ Y H Q,tD K B (cbV i g t) Y H Q->tCall (spD K g) [] E (tCons (tVar i) (tAD K B t)) Y H Q:=λY H Q q=>by
 obtain ⟨G,I,Γ,d,aa,r,e1,kk⟩:=q
 obtain ⟨rr,o8,e2,e3⟩:=pO e1
 obtain ⟨e4,rfl⟩:=qe e3
 obtain ⟨hm,ds,Z,q,q',c,c',f1,f2,f3,f4,rfl⟩:=JP e2
 obtain ⟨a,xs,h1,h2⟩:=t7 hm r
 refine ⟨_,h1,G,I,Γ,ds,Z,r,f1,λws H1 I1 r1 g1 hd=>?_⟩
 show spD K g ((.ref a::ws)++[]) H1 Q E
 rw [append_nil]
 refine borrow r1 f2 f3 hd h1 f4 λv H' I' r' g' hv=>?_
 cases rr with
 | val d'=>cases e4;exact kk v H' I' r' (g1.trans g') hv
 | own _=>cases e4
 | bor _=>cases e4
 | fro _=>cases e4
 | dic _=>cases e4
theorem qq {i:Nat}{y:Str}{py:Pos} (F:FnOk X.prog X.w X.K X.mg X.base CX0 k f fd ps (spD X.K g)) (hr:Room k X.A) (hg:Gl X x) (hm:X.mg x=some (.ref f)) (hk:PySem.W.keepIn X.K (.ref f)=true) (hb:Binds X.K fd ps []) (hv:PE X (.Name y py) (tVar i)) (ha:AD X B es t)
  (aW:(x == ("__debug__":Str))=false:=by decide) (he:starEach (.Name y py::es) X.env=(false,eval (.Name y py) X.env)::starEach es X.env:=by rfl) (aA:(backTo pos (starEach es X.env)).any (·.1)=false:=by rfl) :
  ED X B (.Call (.Name x p) (.Name y py::es) [] pos) (cbV i g t):=PE.imp (wj F hr hg hm hk hb .nil pass0 (sx hv ha he) aW he aA) EM
end
end DL
namespace DL
open PySem PySem.Spec PyProof.Rows L2
noncomputable def relab (sc cB:Scope):Scope:={ sc with names:=sc.names.map λ(n,k)=>if (k == .free&&cB.kind == .function&&cB.names.lookup n == some .cell) then (n,.cell) else (n,k) }
noncomputable def clo (cells:List (Str×Addr)):List (Str×NameKind)->List (Str×Addr)->List (Str×Addr)
 | [],af=>af
 | (n,k)::r,af=>if k == .free then clo cells r ((n,(cells.lookup n).getD 0)::af) else clo cells r af
theorem AO {env:Env} (f:Str×NameKind->List (Str×Addr)->Sem (ForInStep (List (Str×Addr))))
  (hf:∀ name kind cs,f (name,kind) cs=if kind == .free then (do let a ← cellOf env name;pure (.yield ((name,a)::cs))) else pure (.yield cs)) :
  ∀ (names:List (Str×NameKind)) (af:List (Str×Addr)),(∀ n,(n,NameKind.free)∈names->∃ c,env.cells.lookup n=some c)->(forIn names af f:Sem _)=pure (clo env.cells names af)
 | [],af,_=>by rw [forIn_nil];rfl
 | (n,k)::r,af,h=>by
  rw [forIn_cons,hf]
  unfold clo
  have ih:=λkw=>AO f hf r kw (λn hn=>h n (mem_cons_of_mem _ hn))
  by_cases hk:(k == NameKind.free)=true
  ·rw [if_pos hk,if_pos hk]
   have cZ:k=.free:=by simpa using hk
   subst cZ
   obtain ⟨c,hc⟩:=h n mem_cons_self
   have e:cellOf env n=pure c:=by unfold cellOf;rw [hc]
   rw [e,hc]
   simp only [pure_bind,Option.getD_some]
   exact ih _
  ·rw [if_neg hk,if_neg hk]
   simp only [pure_bind]
   exact ih _
theorem A9 {scope:Scope}{env:Env} (h:∀ n,(n,NameKind.free)∈scope.names->∃ c,env.cells.lookup n=some c):closureFor scope env=pure (clo env.cells scope.names []):=by
 unfold closureFor
 dsimp only
 rw [AO (env:=env) _ (λname kind cs=>by cases hk:kind == NameKind.free<;>simp [hk]) scope.names [] h]
 rfl
theorem uF {cells:List (Str×Addr)}:∀ {names:List (Str×NameKind)}{af:List (Str×Addr)}{x:Str}{c:Addr},(x,c)∈clo cells names af->(x,c)∈af\/((x,NameKind.free)∈names/\c=(cells.lookup x).getD 0)
 | [],af,x,c,h=>.inl h
 | (n,k)::r,af,x,c,h=>by
  unfold clo at h
  by_cases hk:(k == NameKind.free)=true
  ·rw [if_pos hk] at h
   have cZ:k=.free:=by simpa using hk
   subst cZ
   rcases uF h with z | ⟨z1,z2⟩
   ·rcases mem_cons.mp z with z | z
    ·cases z;exact .inr ⟨mem_cons_self,rfl⟩
    ·exact .inl z
   ·exact .inr ⟨mem_cons_of_mem _ z1,z2⟩
  ·rw [if_neg hk] at h
   rcases uF h with z | ⟨z1,z2⟩
   ·exact .inl z
   ·exact .inr ⟨mem_cons_of_mem _ z1,z2⟩
theorem xq {cells:List (Str×Addr)}:∀ {names:List (Str×NameKind)}{af:List (Str×Addr)}{x:Str},((x,NameKind.free)∈names\/∃ c,af.lookup x=some c)->∃ c,(clo cells names af).lookup x=some c
 | [],af,x,h=>by
  rcases h with h | h
  ·cases h
  ·exact h
 | (n,k)::r,af,x,h=>by
  unfold clo
  have push:∀ c0:Addr,(∃ c,af.lookup x=some c)->∃ c,((n,c0)::af).lookup x=some c:=λc0 ⟨c,hc⟩=>by
   rw [List.lookup_cons]
   cases x == n
   ·exact ⟨c,hc⟩
   ·exact ⟨c0,rfl⟩
  by_cases hk:(k == NameKind.free)=true
  ·rw [if_pos hk]
   refine xq ?_
   rcases h with h | h
   ·rcases mem_cons.mp h with z | z
    ·cases z
     exact .inr ⟨_,by rw [List.lookup_cons,beq_self_eq_true]⟩
    ·exact .inl z
   ·exact .inr (push _ h)
  ·rw [if_neg hk]
   refine xq ?_
   rcases h with h | h
   ·rcases mem_cons.mp h with z | z
    ·cases z;exact absurd (by rfl) hk
    ·exact .inl z
   ·exact .inr h
structure CompScope (cB sc:Scope) (N N':List Str) (m:Nat):Prop where
 kind:sc.kind=.function
 nocell:∀ y∈sc.names,y.2≠.cell
 locals:∀ y∈sc.names,y.2=.local->sc.names.lookup y.1=some .local
 free:∀ y∈sc.names,y.2=.free->cB.names.lookup y.1=some .cell\/cB.names.lookup y.1=some .free
 nd:N'.Nodup
 len:N'.length=m+N.length
 up:∀ p∈(N'.drop m).zip N,((relab sc cB).names.lookup p.1=none)\/(p.1=p.2/\(relab sc cB).names.lookup p.1≠some .local)
noncomputable def cxC (X:Cx) (scope:Scope) (N':List Str) (C:Addr) (s:Shared) (H:Hp) (ex:List Addr):Cx :=
 { X with N:=N',s₀:=s,H₀:=H,env:=compEnvC scope (clo X.env.cells scope.names []) C X.env,outer:=X.stack,stack:=X.stack,ex:=ex,fn:=λ_=>false,pn:=[],xe:=λ_ _=>False }
def PTs (X:Cx) (bt:List Expr) (t:TT):Prop :=
 ∀ (U:List (Addr×Obj)) (s:Shared) (Y:L2.St) (H:Hp) (Q:Bool->Hp->Prop),Inv X U Y H s->t Y H Q →
  wpAny (model X.prog X.w) X.A (forIn bt true λc r=>if r=true then do let ok ← isTrue c X.env (eval c X.env);pure (yield ok) else pure (yield r)) (TP X U Y Q) X.xe s
theorem FS {X:Cx}:PTs X [] (λ_ H Q=>Q true H):=λU s Y H Q I h=>wpAny_tests_nil ⟨H,I,h⟩
theorem HM {X:Cx}{c:Expr}{t:TT} (h:PT X c t):PTs X [c] t:=λU s Y H Q I q=>wpAny_tests_one (h U s Y H Q I q)
abbrev calm (P:Program) (w:World) (A:Around){α:Type} (m:Sem α) (Q:α->Shared->Prop) (s:Shared):Prop:=wpAny (model P w) A m Q (λ_ _=>False) s
theorem calm.on {P:Program}{w:World}{A:Around}{α β:Type}{m:Sem α}{f:α->Sem β}{Q:α->Shared->Prop}{K:β->Shared->Prop}{E:Value->Shared->Prop}{s:Shared} (h:calm P w A m Q s) (k:∀ a s',Q a s'->wpAny (model P w) A (f a) K E s'):wpAny (model P w) A (m >>= f) K E s :=
 wpAny_bind (wpAny_mono h k λ_ _ no=>no.elim)
def TurnMeets (P:Program) (w:World) (A:Around) (cC gT:Value) (tg bw:Expr) (bt:List Expr) (env:Env) (Er:Value->Shared->Prop) (again bu:Shared->Prop) (s:Shared):Prop :=
 calm P w A (pyNext cC) (λeE s=>match eE with
  | none=>bu s
  | some v=>calm P w A (letOwnedTupleGo tg cC v) (λ_ s=>calm P w A (assign tg env v) (λ_ s =>
    calm P w A (forIn bt true λc r=>if r=true then do let ok ← isTrue c env (eval c env);pure (yield ok) else pure (yield r)) (λiZ s =>
     cond iZ (wpAny (model P w) A (eval bw env) (λx s=>calm P w A (call (.builtin "list.append") [gT,x]) (λ_ s=>again s) s) (notedBy (model P w) A env Er) s) (again s)) s) s) s) s
theorem IJ {M:Model}{A:Around}{env:Env}{E E':Value->Shared->Prop}{x:Value}{s:Shared} (h:notedBy M A env E x s) (f:∀ x s,E x s->E' x s):notedBy M A env E' x s:=wpAny_mono h (λ_ _ q=>f _ _ q) f
theorem Di {P:Program}{w:World}{A:Around}{bu:Result->Shared->Prop}{s:Shared}{bw tg i8:Expr}{bt:List Expr}{sc:Scope}{bi:Pos}{cC gT:Value}{env:Env}{Er:Value->Shared->Prop} (mC:∀ x s,Er x s->bu (.error x) s) (W:Nat->Shared->Prop)
  (kx:∀ left s,W left s->TurnMeets P w A cC gT tg bw bt env Er (λs'=>∃ less,less < left/\W less s') (bu (.ok .next)) s) (left:Nat) (start:W left s) :
  codeAny (model P w) A (.compLoop (.ListComp bw [⟨tg,i8,bt,0⟩] sc bi) 0 cC gT env) bu s:=by
 refine codeAny_loop rfl W (λleft s here=>?_) left start
 have turn:=kx left s here
 unfold TurnMeets at turn
 refine wpAny_noted ?_
 rw [compTurn_list]
 refine wpAny_bind (wpAny_standAt (turn.on λeE s1 h1=>?_))
 cases eE with
 | none=>exact wpAny_pure h1
 | some v=>exact calm.on h1 λ_ _ h2=>calm.on h2 λ_ _ h3=>calm.on h3 λiZ s4 h4=>match iZ,h4 with
  | false,h4=>wpAny_pure (And.intro rfl h4)
  | true,h4=>wpAny_bind (wpAny_bind (wpAny_mono h4 (λ_ _ h5=>calm.on h5 λ_ _ h6=>wpAny_pure (wpAny_pure (And.intro rfl h6))) λ_ _ z=>IJ z mC))
def Clear (X:Cx) (U:List (Addr×Obj)) (H:Hp) (C:Addr):Prop:=H C=none/\C≠X.env.locals/\X.s₀.heap.objs.size<=C/\(∀ x c,X.env.cells.lookup x=some c->c≠C)/\∀ p∈X.pn++U,p.1≠C
theorem Inv.clear {X:Cx}{U:List (Addr×Obj)}{Y:L2.St}{H:Hp}{s:Shared}{h':Heap}{C:Addr} (I:Inv X U Y H s) (c:Clear X U H C) (hs:Heap.SameBut C s.heap h'):Inv X U Y H { s with heap:=h' } :=
 I.turned (t':=s.toks) (λb o hb e=>(hs.2 b hb).trans e) c.1 c.2.1 (.inr c.2.2.1) c.2.2.2.1 c.2.2.2.2
structure Within (X:Cx) (U:List (Addr×Obj)) (Y:L2.St) (X1:Cx):Prop where
 back:∀ {ps:List (Addr×Obj)}{ai:L2.St}{H':Hp}{s':Shared},Inv X1 ps ai H' s'->Inv X U Y H' s'/\Clear X U H' X1.env.locals
 old:∀ b o,X.s₀.heap.get? b=some o->b∉X.ex->∃ o',X1.s₀.heap.get? b=some o'/\b∉X1.ex
 pin:∀ p∈X.pn++U,∃ o',X1.s₀.heap.get? p.1=some o'/\p.1∉X1.ex
def CompW (m:Nat) (J:It) (g:TG) (tt:TT) (te:TE) (Y:L2.St) (H1:Hp) (p:Addr) (Q:VK):Prop :=
 ∃ W:Nat->Nat->L2.St->Hp->Prop,(∃ n,W 0 n (replicate m none++Y) (upd H1 p (.lst [])))/\∀ i n ai H',W i n ai H' →
  (J.stop i H'/\Q (.ref p) H')\/(J.go i H'/\∀ x H2,J.yld i H' x H2->g x ai H2 λaJ H3=>tt aJ H3 λb H4 =>
   if b=true then te aJ H4 λy H5=>∃ af,H5 p=some (.lst af)/\af.length < sizeLine/\∃ n',n' < n/\W (i+1) n' aJ (upd H5 p (.lst (af++[y])))
   else ∃ n',n' < n/\W (i+1) n' aJ H4)
section
variable {X:Cx}{tg bw iter:Expr}{bt:List Expr}{scope:Scope}{pos:Pos}{N':List Str}{m:Nat}{g:TG}{tt:TT}{te:TE}
theorem CL {Er:Addr->Value->Shared->Prop}{U:List (Addr×Obj)}{Y:L2.St}{H2:Hp}{s2:Shared}{it:Addr}{fp:List Addr}{tn:Nat->Heap->Prop}{J:It}{Q:VK}{E:Value->Shared->Prop} (S:CompScope X.env.scope scope X.N N' m) (hc:X.calm=true)
  (hg:∀ C s H ex,PG (cxC X scope N' C s H ex) tg g) (ht:∀ C s H ex,PTs (cxC X scope N' C s H ex) bt tt) (he:∀ C s H ex,Within X U Y (cxC X scope N' C s H ex)->PE ((cxC X scope N' C s H ex).wish (notedBy (model X.prog X.w) X.A (compEnvC scope (clo X.env.cells scope.names []) C X.env) (Er C))) bw te)
  (I2:Inv X U Y H2 s2) (T:Turn X.prog X.w X.K tg J fp it tn) (dQ:tn 0 s2.heap) (f2:∀ b∈fp,FpOk X U H2 b) (hw:∀ p,H2 p=none->CompW m J g tt te Y H2 p Q) :
  wpAny (model X.prog X.w) X.A (newList []) (λaf s3=>wpAny (model X.prog X.w) X.A (newFunctionEnv scope X.env.globals (clo X.env.cells scope.names []) [] X.env.qual none .none (some X.env)) (λbv s4 =>
   codeAny (model X.prog X.w) X.A (.compStart (.ListComp bw [⟨tg,iter,bt,0⟩] scope pos) 0 (.ref it) af { bv with scope:=relabel scope X.env })
    (λr s'=>match r with | .ok _=>∃ p H' mm,af=.ref p/\s'.heap.Ns bv.locals mm/\Inv X U Y H' s'/\Clear X U H' bv.locals/\Q (.ref p) H' | .error x=>Er bv.locals x s') s4) E s3) E s2:=by
 refine wpAny_newObj_type (wpAny_newFunctionEnv S.nocell (by intro y hy;simp at hy) (λh1 iB iC=>?_) S.kind)
 dsimp only at iB iC ⊢
 -- the new list
 have hp:H2 s2.heap.objs.size=none:=I2.hok.fresh (le_refl _)
 obtain ⟨W,⟨n0,w0⟩,turn⟩:=hw _ hp
 obtain ⟨p,hP⟩:∃ p,p=s2.heap.objs.size:=⟨_,rfl⟩
 obtain ⟨s3,i9⟩:∃ s3:Shared,s3={ s2 with heap:=s2.heap.push { cls:=.type "list", dict:=none,data:=.seq ([]:List Value).toArray } }:=⟨_,rfl⟩
 obtain ⟨C,hC⟩:∃ C,C=s3.heap.objs.size:=⟨_,rfl⟩
 obtain ⟨H3,ja⟩:∃ H3,H3=upd H2 p (.lst []):=⟨_,rfl⟩
 have h3:s3.heap=s2.heap.push { cls:=.type "list", dict:=none,data:=.seq ([]:List Value).toArray }:=by rw [i9]
 have fM:h1.Ns C (λx=>([]:List (Str×Value)).reverse.lookup x):=by rw [hC,h3];exact iB
 have mD:Heap.SameBut C (s3.heap.push { cls:=.type "dict", data:=.dict #[] }) h1:=by rw [hC,h3];exact iC
 rw [← hP] at hp
 have mE:W 0 n0 (replicate m none++Y) H3:=by rw [ja,hP];exact w0
 have jb:∀ i n ai H',W i n ai H'->(J.stop i H'/\Q (.ref p) H')\/(J.go i H'/\∀ x H2,J.yld i H' x H2->g x ai H2 λaJ H3=>tt aJ H3 λb H4 =>
   if b=true then te aJ H4 λy H5=>∃ af,H5 p=some (.lst af)/\af.length < sizeLine/\∃ n',n' < n/\W (i+1) n' aJ (upd H5 p (.lst (af++[y])))
   else ∃ n',n' < n/\W (i+1) n' aJ H4):=by rw [hP];exact turn
 have I3:Inv X U Y H3 s3:=by
  rw [ja,i9,hP]
  exact I2.laid (t':=s2.toks) (λb u e=>get?_push_of_some _ e) (le_refl _) ⟨zero_le _,[],0,.nil,get?_push_size _ rfl⟩
 have fe:tn 0 s3.heap:=T.keep _ _ _ dQ λb _ o e=>by rw [h3];exact get?_push_of_some _ e
 have f3:∀ b∈fp,FpOk X U H3 b:=λb hb=>by
  obtain ⟨a0,a1⟩:=f2 b hb
  refine ⟨?_,a1⟩
  obtain ⟨o,e,_⟩:=T.obj _ _ dQ b hb
  have ne:b≠p:=λz=>by
   have:=lt_size e
   rw [← hP,z] at this
   exact lt_irrefl _ this
  rw [ja,pV ne];exact a0
 -- the block's context
 have bh:∀ x c,(clo X.env.cells scope.names []).lookup x=some c->X.env.cells.lookup x=some c:=λx c e=>by
  rcases uF (mem_of_lookup e) with z | ⟨z1,z2⟩
  ·cases z
  ·obtain ⟨c',bx⟩:=I2.ok.has x (S.free _ z1 rfl)
   rw [bx] at z2
   rw [z2];exact bx
 have eW:Clear X U H3 C:=by
  refine ⟨?_,?_,?_,λx c e z=>?_,λq hq z=>?_⟩
  ·exact I3.hok.fresh (Nat.le_of_eq hC.symm)
  ·have:=I3.lt;rw [← hC] at this;exact ne_of_gt this
  ·have:=I3.sz;rw [← hC] at this;exact this
  ·obtain ⟨v,q⟩:=I3.cell x c e
   have:=q.lt;rw [← hC,z] at this;exact lt_irrefl _ this
  ·have:=lt_size (I3.pin q hq).1
   rw [← hC,z] at this;exact lt_irrefl _ this
 have old:∀ b o,s3.heap.get? b=some o->h1.get? b=some o:=λb o e=>by
  have ne:b≠C:=λz=>by have:=lt_size e;rw [← hC,z] at this;exact lt_irrefl _ this
  exact (mD.2 b ne).trans (get?_push_of_some _ e)
 have ok:(cxC X scope N' C s3 H3 fp).Ok:=by
  refine ⟨I3.ok.mod,S.kind,I3.ok.glob,I3.ok.blt,Nat.le_of_eq hC.symm,λx y c e1 e2=>I3.ok.inj x y c (bh x c e1) (bh y c e2),λx hx=>?_,λx c z=>(nomatch z),λz=>I3.ok.hd z,I3.ok.frames,.inl rfl,λb hb=>⟨λz=>?_,λx c e=>(f3 b hb).2.2.2.2.1 x c (bh x c e)⟩,I3.bs,le_trans I3.ok.bsz I3.sz,λb o e hb=>?_,λb hb z=>?_,I3.stack,λb hb=>I3.stkFree b hb⟩
  ·-- has
   have dX:(relab scope X.env.scope).names.lookup x=some .cell\/(relab scope X.env.scope).names.lookup x=some .free:=hx
   have mem:∃ k,(x,k)∈(relab scope X.env.scope).names/\(k=NameKind.cell\/k=NameKind.free):=by
    rcases dX with z | z
    ·exact ⟨_,mem_of_lookup z,.inl rfl⟩
    ·exact ⟨_,mem_of_lookup z,.inr rfl⟩
   obtain ⟨k,hm,hk⟩:=mem
   obtain ⟨⟨n1,k1⟩,fh,e1⟩:=mem_map.mp hm
   refine xq (.inl ?_)
   dsimp only at e1
   by_cases hcond:(k1 == NameKind.free&&X.env.scope.kind == ScopeKind.function&&X.env.scope.names.lookup n1 == some NameKind.cell)=true
   ·rw [if_pos hcond] at e1
    cases e1
    have:k1=.free:=by
     simp only [and_eq_true,beq_iff_eq] at hcond
     exact hcond.1.1
    rw [← this];exact fh
   ·rw [if_neg hcond] at e1
    cases e1
    rcases hk with rfl | rfl
    ·exact absurd rfl (S.nocell _ fh)
    ·exact fh
  ·obtain ⟨o,e,_⟩:=T.obj _ _ fe b hb
   have:=lt_size e
   rw [← hC] at this
   have z':b=C:=z
   rw [z'] at this;exact lt_irrefl _ this
  ·obtain ⟨a0,a1,a2,a3,_⟩:=f3 b hb
   rcases a3 with z | z
   ·exact I3.ok.noex b o e z
   ·exact absurd (lt_of_lt_of_le (lt_size e) (le_trans I3.ok.bsz z)) (lt_irrefl _)
  ·have z':=I3.stkSub b z
   obtain ⟨a0,a1,a2,_⟩:=f3 b hb
   rcases mem_cons.mp z' with e | e
   ·exact a1 e
   ·exact a2 e
 -- the block's first state
 have I4:Inv (cxC X scope N' C s3 H3 fp) [] (replicate m none++Y) H3 { s3 with heap:=h1,toks:=s3.toks+([]:List (Str×Value)).length }:=by
  obtain ⟨mo,o9,kn⟩:=I3.loc
  refine ⟨ok,rfl,I3.bare,Un.kept old,⟨_,fM,λi x v e1 e2 e3=>?_⟩,λx c e=>?_,eW.1,λx c e=>I3.freeC x c (bh x c e),λq hq=>absurd (show q∈([]:List (Addr×Obj)) from hq) (by simp),I3.hok.kept old,?_⟩
  ·have hi:m<=i:=by
    by_cases z:m<=i
    ·exact z
    ·rw [getElem?_append_left (by rw [length_replicate];omega),List.getElem?_replicate] at e2
     split at e2<;>cases e2
   rw [List.getElem?_append_right (by rw [length_replicate];exact hi),length_replicate] at e2
   have eF:N'[i]?=some x:=e1
   have cY:i - m < X.N.length:=by
    have:=(List.getElem?_eq_some_iff.mp eF).1
    rw [S.len] at this
    omega
   have e4:(N'.drop m)[i - m]?=some x:=by rw [getElem?_drop];rw [show m+(i - m)=i from by omega];exact eF
   have e5:X.N[i - m]?=some X.N[i - m]:=getElem?_eq_getElem cY
   have e6:((N'.drop m).zip X.N)[i - m]?=some (x,X.N[i - m]):=by rw [List.getElem?_zip_eq_some];exact ⟨e4,e5⟩
   have kz:Vis (relab scope X.env.scope) x:=e3
   rcases S.up _ (mem_of_getElem? e6) with z | ⟨z1,z2⟩
   ·have z':(relab scope X.env.scope).names.lookup x=none:=z
    rcases kz with y | y | y<;>rw [z'] at y<;>cases y
   ·have mF:x=X.N[i - m]:=z1
    have mG:(relab scope X.env.scope).names.lookup x≠some .local:=z2
    have kA:(relab scope X.env.scope).names.lookup x=some .cell\/(relab scope X.env.scope).names.lookup x=some .free:=by
     rcases kz with y | y | y
     ·exact absurd y mG
     ·exact .inl y
     ·exact .inr y
    obtain ⟨c,cD⟩:=ok.has x kA
    have mH:=bh x c cD
    -- the name in the def's own frame
    have mem:(x,NameKind.free)∈scope.names:=by
     rcases uF (mem_of_lookup cD) with y | ⟨y,_⟩
     ·cases y
     ·exact y
    have kB:Vis X.env.scope x:=by
     rcases S.free _ mem rfl with y | y
     ·exact .inr (.inl y)
     ·exact .inr (.inr y)
    obtain ⟨u,ru,l⟩:=kn (i - m) x v (by rw [e5,← mF]) e2 kB
    refine ⟨u,ru,.inr ⟨kA,c,cD,?_⟩⟩
    rcases l with ⟨k,_⟩ | ⟨_,c',e',z'⟩
    ·have k':X.env.scope.names.lookup x=some .local:=k
     rcases S.free _ mem rfl with y | y<;>(have y':X.env.scope.names.lookup x=_:=y;rw [k'] at y';cases y')
    ·rw [mH] at e';cases e'
     exact z'.keeps old
  ·obtain ⟨v,q⟩:=I3.cell x c (bh x c e)
   exact ⟨v,q.keeps old⟩
  ·show (replicate m none++Y).length=N'.length
   rw [length_append,length_replicate,S.len,I3.len]
 have cT:∀ {H':Hp},(∀ b∈fp,H' b=none)->∀ b∈fp,FpOk (cxC X scope N' C s3 H3 fp) [] H' b:=λ{H'} hn b hb=>by
  refine ⟨hn b hb,(ok.exf b hb).1,ok.exfs b hb,.inl hb,(ok.exf b hb).2,λq hq=>absurd (show q∈([]:List (Addr×Obj)) from hq) (by simp)⟩
 -- what stands behind the block
 have back:∀ {ps:List (Addr×Obj)}{ai:L2.St}{H':Hp}{s':Shared},Inv (cxC X scope N' C s3 H3 fp) ps ai H' s'->Inv X U Y H' s'/\Clear X U H' C:=λ{ps ai H' s'} J'=>by
  refine ⟨I3.call' J'.os J'.base J'.hok J'.bare λb hb=>?_,J'.free,eW.2⟩
  obtain ⟨a0,a1,a2,a3,a4,a5⟩:=f3 b hb
  exact ⟨a3,a1,a4,a5⟩
 have df:Within X U Y (cxC X scope N' C s3 H3 fp):=⟨back,λb o e n=>by
  obtain ⟨o',e'⟩:=I3.base.there b o e n
  refine ⟨o',e',λm=>?_⟩
  rcases (f3 b m).2.2.2.1 with z | z
  ·exact n z
  ·exact absurd (lt_of_lt_of_le (lt_size e) z) (lt_irrefl _),λq hq=>⟨_,(I3.pin q hq).1,λm=>(f3 q.1 m).2.2.2.2.2 q hq rfl⟩⟩
 have fD:∀ s4:Shared,s4={ s3 with heap:=h1,toks:=s3.toks+([]:List (Str×Value)).length } →
   codeAny (model X.prog X.w) X.A (.compLoop (.ListComp bw [⟨tg,iter,bt,0⟩] scope pos) 0 (.ref it) (.ref p) (compEnvC scope (clo X.env.cells scope.names []) C X.env))
    (λr s'=>match r with | .ok _=>∃ p' H' mm,Value.ref p=.ref p'/\s'.heap.Ns C mm/\Inv X U Y H' s'/\Clear X U H' C/\Q (.ref p') H' | .error x=>Er C x s') s4:=by
  rintro s4 rfl
  refine Di (Er:=Er C) (λ_ _ z=>z) (λn s'=>∃ i ai H',Inv (cxC X scope N' C s3 H3 fp) [] ai H' s'/\tn i s'.heap/\(∀ b∈fp,H' b=none)/\W i n ai H') ?_ n0 ⟨0,_,_,I4,T.keep _ _ _ fe λb _ o e=>old b o e,λb hb=>(f3 b hb).1,mE⟩
  rintro n s5 ⟨i,bY,H5,I5,ff,gL,w5⟩
  show TurnMeets _ _ _ _ _ _ _ _ _ _ _ _ _
  unfold TurnMeets
  rcases jb i n bY H5 w5 with ⟨stop,qn⟩ | ⟨go,step⟩
  ·refine wpAny_mono (T.done (cxC X scope N' C s3 H3 fp) rfl rfl rfl hc i [] s5 bY H5 (λ_ _=>False) I5 (cT gL) ff stop) (λr s6 ⟨hr,I6⟩=>?_) λ_ _ z=>z
   subst hr
   obtain ⟨mm,mI,_⟩:=I6.loc
   obtain ⟨b1,b2⟩:=back I6
   exact ⟨p,H5,mm,rfl,mI,b1,b2,qn⟩
  ·refine wpAny_mono (T.item (cxC X scope N' C s3 H3 fp) rfl rfl rfl hc i [] s5 bY H5 (λ_ _=>False) I5 (cT gL) ff go) (λr s6 ⟨u,hr,h6⟩=>?_) λ_ _ z=>z
   subst hr
   refine wpAny_mono h6 (λ_ s7 ⟨x,H7,I7,r7,y7,jc,mJ⟩=>?_) λ_ _ z=>z
   have mK:=I7.pinned (cT mJ) (T.obj _ _ jc)
   refine wpAny_mono (hg C s3 H3 fp _ s7 bY H7 x u _ mK r7 (step x H7 y7)) (λ_ s8 ⟨fN,H8,I8,q8⟩=>?_) λ_ _ z=>z
   refine wpAny_mono (ht C s3 H3 fp _ s8 fN H8 _ I8 q8) (λok s9 ⟨H9,I9,q9⟩=>?_) λ_ _ z=>z
   have again:∀ {kC:L2.St}{Ha:Hp}{sa:Shared},Inv (cxC X scope N' C s3 H3 fp) ([]++pinsAt fp s7.heap) kC Ha sa->tn (i+1) sa.heap/\(∀ b∈fp,Ha b=none):=λ{kC Ha sa} Ia=>by
    refine ⟨T.keep _ _ _ jc λb hb o e=>(Ia.pin (b,o) (mem_append_right _ (mem_append_right _ (vY hb e)))).1,λb hb=>?_⟩
    obtain ⟨o,e,d⟩:=T.obj _ _ jc b hb
    exact (Ia.pin (b,o) (mem_append_right _ (mem_append_right _ (vY hb e)))).2.1
   cases ok with
   | false =>
    rw [if_neg Bool.false_ne_true] at q9
    obtain ⟨n',dy,w9⟩:=q9
    obtain ⟨a1,a2⟩:=again I9
    exact ⟨n',dy,i+1,fN,H9,I9.unpinned,a1,a2,w9⟩
   | true =>
    rw [if_pos rfl] at q9
    refine wpAny_mono (he C s3 H3 fp df _ s9 fN H9 _ (I9.wish _) q9) (λxv mL ⟨y,kD,jd,mM,af,kE,hl,n',dy,mO⟩=>?_) λ_ _ z=>z
    replace jd:=jd.unwish
    refine wpAny_mono (zp (X:=cxC X scope N' C s3 H3 fp) _ mL fN kD (.ref p) [y] (.ref p) [xv] (λ_ H'=>H'=upd kD p (.lst (af++[y]))) jd rfl (.cons mM .nil) ⟨p,af,y,rfl,rfl,kE,hl,rfl⟩) (λ_ pd ⟨pe,pf,kF,_,mP⟩=>?_) λ_ _ z=>z
    subst mP
    obtain ⟨a1,a2⟩:=again kF
    exact ⟨n',dy,i+1,fN,_,kF.unpinned,a1,a2,mO⟩
 subst hC
 subst i9
 subst hP
 refine codeAny_compStart_list ?_ (T.self X.A 0 _ _ _ (T.keep _ _ _ fe λb _ o e=>old b o e) ?_)
 ·exact fD _ rfl
 ·exact fD _ rfl
end
section
variable {X:Cx}{tg bw iter:Expr}{bt:List Expr}{scope:Scope}{pos:Pos}{N':List Str}{m:Nat}{g:TG}{tt:TT}{te:TE}{wi:TI}
noncomputable def tComp (m:Nat) (wi:TI) (g:TG) (tt:TT) (te:TE):TE:=λY H Q=>wi Y H λJ H1=>∀ p,H1 p=none->CompW m J g tt te Y H1 p Q
theorem JU (S:CompScope X.env.scope scope X.N N' m) (hc:X.calm=true) (hi:PI X tg iter wi)
  (hg:∀ C s H ex,PG (cxC X scope N' C s H ex) tg g) (ht:∀ C s H ex,PTs (cxC X scope N' C s H ex) bt tt) (he:∀ C s H ex,PE (cxC X scope N' C s H ex) bw te)
  (hs:∀ x,foldedSetIterable iter X.env x=pure x:=by intro _;rfl):PE X (.ListComp bw [⟨tg,iter,bt,0⟩] scope pos) (tComp m wi g tt te):=by
 intro U s Y H Q I h
 rw [eval_ListComp]
 refine wpAny_comprehension_free (use:=none) rfl hs (A9 λn hn=>I.ok.has n (S.free _ hn rfl)) S.kind S.locals (thn (hi U s Y H _ I h) λxv s1 h1=>thn h1 λgJ s2 h2=>?_)
 obtain ⟨it,fp,tn,J,H2,e,I2,T,dQ,f2,hw⟩:=h2
 subst e
 refine thn (CL (Er:=λ_ _ _=>False) (pos:=pos) (iter:=iter) S hc hg ht (λC s H ex _=>PE.nox (X:=(cxC X scope N' C s H ex).wish _) (he C s H ex)) I2 T dQ f2 hw) λaf s3 h3=>thn h3 λbv s4 h4=>codeAny_mono h4 λr s5 h5=>?_
 cases r with
 | error x=>exact h5.elim
 | ok fl =>
  obtain ⟨p,H5,mm,rfl,hn,I5,cl,q⟩:=h5
  exact ⟨mm,hn,λh' dB=>⟨.ref p,H5,Inv.clear I5 cl dB,rfl,q⟩⟩
end
noncomputable def inC {α:Type} (m:Nat) (g:M α):M α:=λΓ=>match g (replicate m none++Γ) with
 | some (a,aa)=>some (a,aa.drop m)
 | none=>none
noncomputable def compM (az:D->M Unit) (ts:M Bool) (el:M D):List D->M (List D)
 | []=>ret []
 | d::ds=>bnd (az d) λ_=>bnd ts λb=>if b then bnd el λx=>bnd (compM az ts el ds) λr=>ret (x::r) else compM az ts el ds
noncomputable def compO (m:Nat) (it:M (List D)) (az:D->M Unit) (ts:M Bool) (el:M D):M (List D):=bnd it λds=>if ds.length<=lim then inC m (compM az ts el ds) else λ_=>none
noncomputable def bUp (m:Nat) (B:BB):BB:=λi=>if i < m then none else B (i - m)
theorem zI {α:Type}{m:Nat}{g:M α}{Γ aa:Gm}{a:α} (h:inC m g Γ=some (a,aa)):∃ Z,g (replicate m none++Γ)=some (a,Z)/\aa=Z.drop m:=by
 unfold inC at h
 cases e:g (replicate m none++Γ) with
 | none=>rw [e] at h;cases h
 | some q=>obtain ⟨b,Z⟩:=q;rw [e] at h;cases h;exact ⟨Z,rfl,rfl⟩
section
variable {K:PySem.W.Frag}{B:BB}{G I H:Hp}{Y ai:L2.St}{Γ aa:Gm}{m:Nat}
theorem tq {α:Type}{l:List (Option α)}{m i:Nat}{a:α} (h:(replicate m (none:Option α)++l)[i]?=some (some a)):m<=i/\l[i - m]?=some (some a):=by
 by_cases hi:m<=i
 ·rw [List.getElem?_append_right (by rw [length_replicate];exact hi),length_replicate] at h
  exact ⟨hi,h⟩
 ·rw [getElem?_append_left (by rw [length_replicate];omega),List.getElem?_replicate] at h
  split at h<;>cases h
theorem AY {α:Type}{l:List (Option α)}{m i:Nat} (hi:m<=i):(replicate m (none:Option α)++l)[i]?=l[i - m]?:=by
 rw [List.getElem?_append_right (by rw [length_replicate];exact hi),length_replicate]
theorem Rep.up (r:Rep K B G I H Y Γ) (m:Nat):Rep K (bUp m B) G I H (replicate m none++Y) (replicate m none++Γ) where
 iH:=r.iH
 gH:=r.gH
 len:=by rw [length_append,length_append,length_replicate,length_replicate,r.len]
 slot:=λi q e=>by
  obtain ⟨hi,e1⟩:=tq e
  obtain ⟨v,e2,e3⟩:=r.slot _ q e1
  exact ⟨v,by rw [AY hi];exact e2,e3⟩
 dist:=λi j q q' v e e' mm je s1 s2=>by
  obtain ⟨hi,e1⟩:=tq e
  obtain ⟨hj,e2⟩:=tq e'
  have:=r.dist _ _ q q' v e1 e2 mm je (tq s1).2 (tq s2).2
  omega
 bor:=λi ds e=>by
  obtain ⟨hi,e1⟩:=tq e
  rw [AY hi,r.bor _ ds e1]
  unfold bUp
  rw [if_neg (by omega)]
theorem Rep.down (r:Rep K (bUp m B) G I H ai aa) (hs:ai.drop m=Y):Rep K B G I H Y (aa.drop m):=by
 subst hs
 exact {
  iH:=r.iH,gH:=r.gH
  len:=by rw [length_drop,length_drop,r.len]
  slot:=λi q e=>by
   rw [getElem?_drop] at e
   obtain ⟨v,e2,e3⟩:=r.slot _ q e
   exact ⟨v,by rw [getElem?_drop];exact e2,e3⟩
  dist:=λi j q q' v e e' mm je s1 s2=>by
   rw [getElem?_drop] at e e' s1 s2
   have:=r.dist _ _ q q' v e e' mm je s1 s2
   omega
  bor:=λi ds e=>by
   rw [getElem?_drop] at e ⊢
   rw [r.bor _ ds e]
   unfold bUp
   rw [if_neg (by omega)]
   congr 1
   omega }
theorem Rep.guard (r:Rep K B G I H Y Γ){p:Addr} (h:H p=none) (o:HO):Rep K B (upd G p o) I (upd H p o) Y Γ where
 iH:=r.iH.trans (qD h o)
 gH:=Bh r.gH o
 len:=r.len
 slot:=λi q e=>by
  obtain ⟨v,e1,e2⟩:=r.slot i q e
  refine ⟨v,e1,?_⟩
  have mt:∀ ds,Mt K G I H ds v->Mt K (upd G p o) I (upd H p o) ds v:=λds hh=>by
   obtain ⟨p2,xs,h1,h2,h3,h4,h5⟩:=hh
   have ne:p2≠p:=rh h2 h
   exact ⟨p2,xs,h1,by rw [pV ne];exact h2,h3,by rw [pV ne];exact h4,h5⟩
  cases q with
  | val d=>exact e2
  | dic ds =>
   obtain ⟨p2,xs,h1,h2,h3,h4,h5⟩:=e2
   have ne:p2≠p:=rh h2 h
   exact ⟨p2,xs,h1,by rw [pV ne];exact h2,h3,by rw [pV ne];exact h4,h5⟩
  | own ds=>exact mt ds e2
  | bor ds=>exact mt ds e2
  | fro ds =>
   obtain ⟨p2,xs,f1,f2,f3,f4⟩:=e2
   have ne:p2≠p:=rh (r.iH _ _ f2) h
   exact ⟨p2,xs,f1,f2,by rw [pV ne];exact f3,f4⟩
 dist:=r.dist
 bor:=r.bor
theorem Rep.reguard {p:Addr}{o o':HO} (r:Rep K B (upd G p o) I H Y Γ) (hi:I p=none):Rep K B (upd G p o') I (upd H p o') Y Γ where
 iH:=λb u q=>by
  have ne:b≠p:=λz=>by subst z;rw [hi] at q;cases q
  rw [pV ne];exact r.iH b u q
 gH:=λb u q=>by
  by_cases e:b=p
  ·subst e;rw [qj] at q ⊢;exact q
  ·rw [pV e] at q ⊢;exact r.gH b u (by rw [pV e];exact q)
 len:=r.len
 slot:=λi q e=>by
  obtain ⟨v,e1,e2⟩:=r.slot i q e
  refine ⟨v,e1,?_⟩
  have mt:∀ ds,Mt K (upd G p o) I H ds v->Mt K (upd G p o') I (upd H p o') ds v:=λds hh=>by
   obtain ⟨p2,xs,h1,h2,h3,h4,h5⟩:=hh
   have ne:p2≠p:=λz=>by subst z;rw [qj] at h4;cases h4
   rw [pV ne] at h4
   exact ⟨p2,xs,h1,by rw [pV ne];exact h2,h3,by rw [pV ne];exact h4,h5⟩
  cases q with
  | val d=>exact e2
  | dic ds =>
   obtain ⟨p2,xs,h1,h2,h3,h4,h5⟩:=e2
   have ne:p2≠p:=λz=>by subst z;rw [qj] at h4;cases h4
   rw [pV ne] at h4
   exact ⟨p2,xs,h1,by rw [pV ne];exact h2,h3,by rw [pV ne];exact h4,h5⟩
  | own ds=>exact mt ds e2
  | bor ds=>exact mt ds e2
  | fro ds =>
   obtain ⟨p2,xs,f1,f2,f3,f4⟩:=e2
   have ne:p2≠p:=λz=>by rw [z,hi] at f2;cases f2
   rw [pV ne] at f3
   exact ⟨p2,xs,f1,f2,by rw [pV ne];exact f3,f4⟩
 dist:=r.dist
 bor:=r.bor
theorem Rep.unguard {p:Addr}{o:HO} (r:Rep K B (upd G p o) I H Y Γ) (hg:G p=none):Rep K B G I H Y Γ/\Apart Y Γ p:=by
 have ap:Apart Y Γ p:=λj q e mm s=>by
  obtain ⟨v,e1,e2⟩:=r.slot j q e
  obtain ⟨p2,xs,h1,h2,h3,h4⟩:=e2.mt mm
  rw [e1,h1] at s
  cases s
  rw [qj] at h4;cases h4
 refine ⟨{ iH:=r.iH,gH:=(qD hg o).trans r.gH,len:=r.len,slot:=λi q e=>?_,dist:=r.dist,bor:=r.bor },ap⟩
 obtain ⟨v,e1,e2⟩:=r.slot i q e
 refine ⟨v,e1,?_⟩
 have mt:∀ ds,Mt K (upd G p o) I H ds v->Mt K G I H ds v:=λds hh=>by
  obtain ⟨p2,xs,h1,h2,h3,h4,h5⟩:=hh
  have ne:p2≠p:=λz=>by subst z;rw [qj] at h4;cases h4
  rw [pV ne] at h4
  exact ⟨p2,xs,h1,h2,h3,h4,h5⟩
 cases q with
 | val d=>exact e2
 | dic ds =>
  obtain ⟨p2,xs,h1,h2,h3,h4,h5⟩:=e2
  have ne:p2≠p:=λz=>by subst z;rw [qj] at h4;cases h4
  rw [pV ne] at h4
  exact ⟨p2,xs,h1,h2,h3,h4,h5⟩
 | own ds=>exact mt ds e2
 | bor ds=>exact mt ds e2
 | fro ds =>
  obtain ⟨p2,xs,f1,f2,f3,f4⟩:=e2
  have ne:p2≠p:=λz=>by rw [z,qj] at f3;cases f3
  rw [pV ne] at f3
  exact ⟨p2,xs,f1,f2,f3,f4⟩
theorem Grow.unguard {I':Hp}{p:Addr}{o:HO} (g:Grow (upd G p o) I I'):Grow G I I':=⟨g.up,λb u q=>by
 rcases g.new b u q with z | z
 ·exact .inl z
 ·by_cases e:b=p
  ·subst e;rw [qj] at z;cases z
  ·rw [pV e] at z;exact .inr z⟩
theorem Grow.keepsOut {I':Hp}{p:Addr}{o:HO} (g:Grow (upd G p o) I I') (hi:I p=none):I' p=none:=by
 cases e:I' p with
 | none=>rfl
 | some u =>
  rcases g.new p u e with z | z
  ·rw [hi] at z;cases z
  ·rw [qj] at z;cases z
end
section
variable {X:Cx}{B:BB}{tg bw iter:Expr}{bt:List Expr}{scope:Scope}{pos:Pos}{N':List Str}{m:Nat}{it:M (List D)}{az:D->M Unit}{ts:M Bool}{el:M D}
def TDs (X:Cx) (B:BB) (bt:List Expr) (g:M Bool):Prop:=PTs X bt (tTD X.K B g)
theorem qp:TDs X B [] (ret true):=λU s Y H Q I h=>FS U s Y H Q I (by
 obtain ⟨G,I,Γ,b,aa,r,e1,k⟩:=h
 cases e1
 exact k _ _ r (Grow.refl _ _))
theorem Kg {c:Expr}{g:M Bool} (h:TD X B c g):TDs X B [c] g:=HM h
theorem Ig {K:PySem.W.Frag}:∀ Y H Q,tO K B (compO m it az ts el) Y H Q->tComp m (tI K B it) (tGD K (bUp m B) m az) (tTD K (bUp m B) ts) (tD K (bUp m B) el) Y H Q:=λY H Q q=>by
 obtain ⟨G,I,Γ,rs,aa,r,e1,k⟩:=q
 obtain ⟨ds,Z,e2,e3⟩:=pO e1
 by_cases c6:ds.length<=lim
 case neg=>rw [if_neg c6] at e3;cases e3
 rw [if_pos c6] at e3
 obtain ⟨bO,e4,rfl⟩:=zI e3
 refine ⟨G,I,Γ,ds,Z,r,e2,λJ H1 I1 r1 g1 y p hp=>?_⟩
 have gp:=r1.gFree hp
 have ip:=r1.iFree hp
 refine ⟨λi n ai H'=>∃ af ad I2 ah aw,Rep K (bUp m B) (upd G p (.lst af)) I2 H' ai ah/\Grow G I1 I2/\I2 p=none/\IsA K I2 ad af/\ai.drop m=Y/\compM az ts el (ds.drop i) ah=some (aw,bO)/\ad++aw=rs/\ad.length<=i/\i<=ds.length/\n=ds.length - i,
  ⟨ds.length,[],[],I1,_,rs,(r1.up m).guard hp _,Grow.refl _ _,ip,IsA.nil,by rw [List.drop_append_of_le_length (by simp),drop_of_length_le (by simp),List.nil_append],by simpa using e4,rfl,zero_le _,zero_le _,rfl⟩,?_⟩
 rintro i n aJ H2 ⟨af,ad,I2,ah,aw,r2,g2,fO,ha,hs,e5,rfl,mQ,hi,rfl⟩
 obtain ⟨yg,ys⟩:=y i H2 (g2.up.trans r2.iH)
 by_cases bc:i < ds.length
 ·have hd:ds.drop i=ds[i]::ds.drop (i+1):=drop_eq_getElem_cons bc
  obtain ⟨go,yld⟩:=yg ds[i] (getElem?_eq_getElem bc)
  rw [hd,compM] at e5
  obtain ⟨u,aK,e6,e7⟩:=pO e5
  obtain ⟨b,aM,e8,e9⟩:=pO e7
  refine .inr ⟨go,λx H3 hy=>?_⟩
  have main:∀ I3,Rep K (bUp m B) (upd G p (.lst af)) I3 H3 aJ ah->Grow (upd G p (.lst af)) I2 I3->Is K I3 ds[i] x->tGD K (bUp m B) m az x aJ H3 λaJ H3=>tTD K (bUp m B) ts aJ H3 λb H4 =>
    if b=true then tD K (bUp m B) el aJ H4 λy H5=>∃ af,H5 p=some (.lst af)/\af.length < sizeLine/\∃ n',n' < ds.length - i/\∃ acc_1 ad_1 I2 ah rest_1,Rep K (bUp m B) (upd G p (.lst acc_1)) I2 (upd H5 p (.lst (af++[y]))) aJ ah/\Grow G I1 I2/\I2 p=none/\IsA K I2 ad_1 acc_1/\aJ.drop m=Y/\compM az ts el (ds.drop (i+1)) ah=some (rest_1,bO)/\ad_1++rest_1=ad++aw/\ad_1.length<=i+1/\i+1<=ds.length/\n'=ds.length - (i+1)
    else ∃ n',n' < ds.length - i/\∃ af ad_1 I2 ah rest_1,Rep K (bUp m B) (upd G p (.lst af)) I2 H4 aJ ah/\Grow G I1 I2/\I2 p=none/\IsA K I2 ad_1 af/\aJ.drop m=Y/\compM az ts el (ds.drop (i+1)) ah=some (rest_1,bO)/\ad_1++rest_1=ad++aw/\ad_1.length<=i+1/\i+1<=ds.length/\n'=ds.length - (i+1):=by
   intro I3 r3 g3 hx
   refine ⟨_,I3,ah,ds[i],aK,r3,hx,e6,λgR H4 I4 r4 g4 jf=>⟨_,I4,aK,b,aM,r4,e8,λH5 I5 r5 g5=>?_⟩⟩
   have eG:=g3.trans (g4.trans g5)
   have dB:gR.drop m=Y:=jf.trans hs
   cases b with
   | false =>
    refine iteF ⟨ds.length - (i+1),by omega,af,ad,I5,aM,aw,r5,g2.trans eG.unguard,eG.keepsOut fO,ha.mono eG.up,dB,by simpa using e9,rfl,by omega,bc,rfl⟩
   | true =>
    simp only [if_true] at e9
    obtain ⟨xd,bU,f1,f2⟩:=pO e9
    obtain ⟨rr,dg,f3,f4⟩:=pO f2
    cases f4
    refine iteT ⟨_,I5,aM,xd,bU,r5,f1,λyv H6 I6 r6 g6 kG=>⟨af,r6.gH _ _ qj,?_,ds.length - (i+1),by omega,af++[yv],ad++[xd],I6,bU,rr,?_⟩⟩
    ·rw [← ha.length]
     have h1:lim < sizeLine:=by rw [sizeLine_eq];decide
     omega
    ·have fi:=eG.trans g6
     have fP:=fi.keepsOut fO
     exact ⟨r6.reguard fP,g2.trans fi.unguard,fP,IsA.append (ha.mono fi.up) (IsA.cons kG IsA.nil),dB,f3,by rw [List.append_assoc];rfl,by rw [length_append,List.length_singleton];omega,bc,rfl⟩
  rcases yld x H3 hy with ⟨rfl,hx⟩ | ⟨p2,es,xs,cV,rfl,cX,rfl,hx⟩
  ·exact main I2 r2 (Grow.refl _ _) (hx.mono g2.up)
  ·refine main _ (r2.alloc cX _) (r2.growAlloc cX _) ?_
   rw [cV]
   exact Is.tup (SqT.of qj) ((hx.mono g2.up).mono (qD (r2.iFree cX) _))
 ·have cY:i=ds.length:=by omega
  subst cY
  rw [List.drop_length] at e5
  cases e5
  rw [append_nil] at k
  refine .inl ⟨ys (le_refl _),?_⟩
  have rd:=Rep.down r2 hs
  obtain ⟨ru,ap⟩:=rd.unguard gp
  exact k p af H2 I2 ru (g1.trans g2) (r2.gH _ _ qj) fO gp ap ha
theorem qt (S:CompScope X.env.scope scope X.N N' m) (hc:X.calm=true) (hi:ITD X B tg iter it)
  (hg:∀ C s H ex,GD (cxC X scope N' C s H ex) (bUp m B) m tg az) (ht:∀ C s H ex,TDs (cxC X scope N' C s H ex) (bUp m B) bt ts) (he:∀ C s H ex,ED (cxC X scope N' C s H ex) (bUp m B) bw el)
  (hs:∀ x,foldedSetIterable iter X.env x=pure x:=by intro _;rfl):EO X B (.ListComp bw [⟨tg,iter,bt,0⟩] scope pos) (compO m it az ts el):=PE.imp (JU (g:=tGD X.K (bUp m B) m az) (tt:=tTD X.K (bUp m B) ts) (te:=tD X.K (bUp m B) el) S hc hi hg ht he hs) Ig
end
mutual
noncomputable def deq:D->D->Bool
 | .non,.non=>true
 | .bl a,.bl b=>a == b
 | .bl a,.int j=>(if a then (1:Int) else 0) == j
 | .int i,.bl b=>i == (if b then (1:Int) else 0)
 | .int i,.int j=>i == j
 | .str x,.str y=>x == y
 | .tup xs,.tup ys=>deqA xs ys
 | .lst xs,.lst ys=>deqA xs ys
 | _,_=>false
noncomputable def deqA:List D->List D->Bool
 | [],[]=>true
 | x::xs,y::ys=>deq x y&&deqA xs ys
 | _,_=>false
end
mutual
noncomputable def dep:D->Nat
 | .tup xs=>depA xs+1
 | .lst xs=>depA xs+1
 | _=>0
noncomputable def depA:List D->Nat
 | []=>0
 | x::xs=>max (dep x) (depA xs)
end
mutual
theorem vy:∀ a:D,deq a a=true
 | .non=>by rw [deq]
 | .bl b=>by rw [deq];exact beq_self_eq_true b
 | .int b=>by rw [deq];exact beq_self_eq_true b
 | .str b=>by rw [deq];exact beq_self_eq_true b
 | .tup xs=>by rw [deq];exact um xs
 | .lst xs=>by rw [deq];exact um xs
theorem um:∀ a:List D,deqA a a=true
 | []=>by rw [deqA]
 | x::xs=>by rw [deqA,vy x,um xs];rfl
end
theorem qV:∀ {xs:List D}{x:D},x∈xs->dep x<=depA xs
 | y::ys,x,h=>by
  rw [depA]
  rcases mem_cons.mp h with rfl | h
  ·omega
  ·have:=qV h;omega
theorem u7:∀ (xs ys:List D),((range (min xs.length ys.length)).all (λj=>deq (xs.getD j .non) (ys.getD j .non))&&(xs.length == ys.length))=deqA xs ys
 | [],[]=>by rw [deqA];rfl
 | [],y::ys=>by rw [deqA]<;>simp
 | x::xs,[]=>by rw [deqA]<;>simp
 | x::xs,y::ys=>by
  have ih:=u7 xs ys
  have e:min (x::xs).length (y::ys).length=min xs.length ys.length+1:=by simp only [length_cons];omega
  rw [deqA,← ih,e,List.range_succ_eq_map,all_cons,all_map]
  have e2:((x::xs).length == (y::ys).length)=(xs.length == ys.length):=by
   simp only [length_cons]
   cases h:xs.length == ys.length
   ·simp at h ⊢;omega
   ·simp at h ⊢;omega
  rw [e2,Bool.and_assoc]
  rfl
theorem F6 {xs ys:List D} (h:xs.length≠ys.length):deqA xs ys=false:=by
 rw [← u7]
 have:(xs.length == ys.length)=false:=by simpa using h
 rw [this,Bool.and_false]
section
variable {X:Cx}{U:List (Addr×Obj)}{Y:L2.St}{H:Hp}{s:Shared}
theorem IsA.getU {K:PySem.W.Frag}{I:Hp}{ds:List D}{xs:List V}{us:List Value} (h:IsA K I ds xs) (r:Vals xs us){j:Nat} (hj:j < us.toArray.size):∃ v,RelV v us.toArray[j]/\Is K I (ds.getD j .non) v:=by
 have h1:=h.length
 have h2:=r.length
 have bf:j < us.length:=by simpa using hj
 have hd:ds[j]?=some ds[j]:=getElem?_eq_getElem (by omega)
 obtain ⟨v,e1,e2⟩:=h.get hd
 obtain ⟨u,e3,e4⟩:=r.get e1
 have e5:us.toArray[j]=u:=by
  rw [getElem?_eq_getElem bf] at e3
  simpa using e3
 refine ⟨v,by rw [e5];exact e4,?_⟩
 rw [getD_eq_getElem?_getD,hd]
 exact e2
theorem rdL {a:Addr}{xs:List V}{K:PySem.W.Frag} (h:RdK K H a xs):SqL K H a xs:=h.sq
mutual
theorem tY (I:Inv X U Y H s):∀ {a b:D}{v:V},Is X.K H a v->Is X.K H b v->a=b
 | .non,b,v,h,h'=>by
  have e:=rl h;subst e
  cases b<;>first | rfl | (rw [Is] at h';obtain ⟨_,_,e,_⟩:=h';cases e) | (rw [Is] at h';cases h')
 | .bl x,b,v,h,h'=>by
  have e:=qw h;subst e
  cases b<;>first | (rw [Is] at h';obtain ⟨_,_,e,_⟩:=h';cases e) | (rw [Is] at h';cases h';rfl) | (rw [Is] at h';cases h')
 | .int x,b,v,h,h'=>by
  have e:=pY h;subst e
  cases b<;>first | (rw [Is] at h';obtain ⟨_,_,e,_⟩:=h';cases e) | (rw [Is] at h';cases h';rfl) | (rw [Is] at h';cases h')
 | .str x,b,v,h,h'=>by
  have e:=qy h;subst e
  cases b<;>first | (rw [Is] at h';obtain ⟨_,_,e,_⟩:=h';cases e) | (rw [Is] at h';cases h';rfl) | (rw [Is] at h';cases h')
 | .tup ds,b,v,h,h'=>by
  obtain ⟨p,xs,rfl,h1,h2⟩:=qa h
  cases b with
  | tup es =>
   obtain ⟨p',bK,e,h3,h4⟩:=qa h'
   cases e
   have:=I.tuple_inj h1 h3
   subst this
   rw [wu I h2 h4]
  | lst es =>
   obtain ⟨p',bK,e,h3,h4⟩:=qi h'
   cases e
   obtain ⟨i1,_,t1,_⟩:=I.tuple h1
   obtain ⟨i2,_,t2,_⟩:=I.list (rdL h3)
   exact absurd rfl (ne_of_list_tuple t2.isList t1)
  | _=>rw [Is] at h';cases h'
 | .lst ds,b,v,h,h'=>by
  obtain ⟨p,xs,rfl,h1,h2⟩:=qi h
  cases b with
  | lst es =>
   obtain ⟨p',bK,e,h3,h4⟩:=qi h'
   cases e
   have:=I.list_inj (rdL h1) (rdL h3)
   subst this
   rw [wu I h2 h4]
  | tup es =>
   obtain ⟨p',bK,e,h3,h4⟩:=qa h'
   cases e
   obtain ⟨i1,_,t1,_⟩:=I.tuple h3
   obtain ⟨i2,_,t2,_⟩:=I.list (rdL h1)
   exact absurd rfl (ne_of_list_tuple t2.isList t1)
  | _=>rw [Is] at h';cases h'
theorem wu (I:Inv X U Y H s):∀ {a b:List D}{v:List V},IsA X.K H a v->IsA X.K H b v->a=b
 | [],b,v,h,h'=>by
  have e:=h.nil_inv;subst e
  cases b with
  | nil=>rfl
  | cons d r=>obtain ⟨_,_,e,_⟩:=h'.cons_inv;cases e
 | d::ds,b,v,h,h'=>by
  obtain ⟨x,r,rfl,h1,h2⟩:=h.cons_inv
  cases b with
  | nil=>have:=h'.nil_inv;cases this
  | cons e es =>
   obtain ⟨x',r',e',h3,h4⟩:=h'.cons_inv
   cases e'
   rw [tY I h1 h3,wu I h2 h4]
end
open PySem.SeqAt in
theorem BE (I:Inv X U Y H s){A:Around} (hu:A.units < cLine){a b:D}{x y:V}{u v:Value} (ha:Is X.K H a x) (hb:Is X.K H b y) (ru:RelV x u) (rv:RelV y v)
  (ht:∀ xs ys,a=.tup xs->b=.tup ys->RcAt A s u v (deq a b)/\EqAt A s u v (deq a b)/\RcNeAt A s u v (!deq a b))
  (hl:∀ xs ys,a=.lst xs->b=.lst ys->RcAt A s u v (deq a b)/\EqAt A s u v (deq a b)/\RcNeAt A s u v (!deq a b)):RcAt A s u v (deq a b)/\EqAt A s u v (deq a b)/\RcNeAt A s u v (!deq a b):=by
 cases a with
 | non =>
  have e:=rl ha;subst e;cases ru
  cases b with
  | non=>have e:=rl hb;subst e;cases rv;rw [deq];exact ⟨.none_none,.same _,.none_none⟩
  | bl j=>have e:=qw hb;subst e;cases rv;rw [deq]<;>first | exact ⟨.none_bool _,.none_bool _,.none_bool _⟩ | (intros;contradiction)
  | int j=>have e:=pY hb;subst e;obtain ⟨t,rfl⟩:=rv;rw [deq]<;>first | exact ⟨.none_int _ _,.none_int _ _,.none_int _ _⟩ | (intros;contradiction)
  | str j=>have e:=qy hb;subst e;obtain ⟨t,rfl⟩:=rv;rw [deq]<;>first | exact ⟨.none_str _ _,.none_str _ _,.none_str _ _⟩ | (intros;contradiction)
  | tup j =>
   obtain ⟨p,xs,rfl,h1,h2⟩:=qa hb;cases rv
   obtain ⟨ac,_,t,_⟩:=I.tuple h1
   rw [deq]<;>first | exact ⟨.none_tuple t hu,.none_tuple t hu,.none_tuple t hu⟩ | (intros;contradiction)
  | lst j =>
   obtain ⟨p,xs,rfl,h1,h2⟩:=qi hb;cases rv
   obtain ⟨ac,_,t,_⟩:=I.list (rdL h1)
   have t:=t.isList
   rw [deq]<;>first | exact ⟨.none_list t hu,.none_list t hu,.none_list t hu⟩ | (intros;contradiction)
 | bl i =>
  have e:=qw ha;subst e;cases ru
  cases b with
  | non=>have e:=rl hb;subst e;cases rv;rw [deq]<;>first | exact ⟨.bool_none _,.bool_none _,.bool_none _⟩ | (intros;contradiction)
  | bl j=>have e:=qw hb;subst e;cases rv;rw [deq];exact ⟨.bool_bool _ _,.bool_bool _ _,.bool_bool _ _⟩
  | int j=>have e:=pY hb;subst e;obtain ⟨t,rfl⟩:=rv;rw [deq];exact ⟨.bool_int _ _ _,.bool_int _ _ _,.bool_int _ _ _⟩
  | str j=>have e:=qy hb;subst e;obtain ⟨t,rfl⟩:=rv;rw [deq]<;>first | exact ⟨.bool_str _ _ _,.bool_str _ _ _,.bool_str _ _ _⟩ | (intros;contradiction)
  | tup j =>
   obtain ⟨p,xs,rfl,h1,h2⟩:=qa hb;cases rv
   obtain ⟨ac,_,t,_⟩:=I.tuple h1
   rw [deq]<;>first | exact ⟨.bool_tuple _ t hu,.bool_tuple _ t hu,.bool_tuple _ t hu⟩ | (intros;contradiction)
  | lst j =>
   obtain ⟨p,xs,rfl,h1,h2⟩:=qi hb;cases rv
   obtain ⟨ac,_,t,_⟩:=I.list (rdL h1)
   have t:=t.isList
   rw [deq]<;>first | exact ⟨.bool_list _ t hu,.bool_list _ t hu,.bool_list _ t hu⟩ | (intros;contradiction)
 | int i =>
  have e:=pY ha;subst e;obtain ⟨t0,rfl⟩:=ru
  cases b with
  | non=>have e:=rl hb;subst e;cases rv;rw [deq]<;>first | exact ⟨.int_none _ _,.int_none _ _,.int_none _ _⟩ | (intros;contradiction)
  | bl j=>have e:=qw hb;subst e;cases rv;rw [deq];exact ⟨.int_bool _ _ _,.int_bool _ _ _,.int_bool _ _ _⟩
  | int j=>have e:=pY hb;subst e;obtain ⟨t,rfl⟩:=rv;rw [deq];exact ⟨.int_int _ _ _ _,.int_int _ _ _ _,.int_int _ _ _ _⟩
  | str j=>have e:=qy hb;subst e;obtain ⟨t,rfl⟩:=rv;rw [deq]<;>first | exact ⟨.int_str _ _ _ _,.int_str _ _ _ _,.int_str _ _ _ _⟩ | (intros;contradiction)
  | tup j =>
   obtain ⟨p,xs,rfl,h1,h2⟩:=qa hb;cases rv
   obtain ⟨ac,_,t,_⟩:=I.tuple h1
   rw [deq]<;>first | exact ⟨.int_tuple _ _ t hu,.int_tuple _ _ t hu,.int_tuple _ _ t hu⟩ | (intros;contradiction)
  | lst j =>
   obtain ⟨p,xs,rfl,h1,h2⟩:=qi hb;cases rv
   obtain ⟨ac,_,t,_⟩:=I.list (rdL h1)
   have t:=t.isList
   rw [deq]<;>first | exact ⟨.int_list _ _ t hu,.int_list _ _ t hu,.int_list _ _ t hu⟩ | (intros;contradiction)
 | str i =>
  have e:=qy ha;subst e;obtain ⟨t0,rfl⟩:=ru
  cases b with
  | non=>have e:=rl hb;subst e;cases rv;rw [deq]<;>first | exact ⟨.str_none _ _,.str_none _ _,.str_none _ _⟩ | (intros;contradiction)
  | bl j=>have e:=qw hb;subst e;cases rv;rw [deq]<;>first | exact ⟨.str_bool _ _ _,.str_bool _ _ _,.str_bool _ _ _⟩ | (intros;contradiction)
  | int j=>have e:=pY hb;subst e;obtain ⟨t,rfl⟩:=rv;rw [deq]<;>first | exact ⟨.str_int _ _ _ _,.str_int _ _ _ _,.str_int _ _ _ _⟩ | (intros;contradiction)
  | str j=>have e:=qy hb;subst e;obtain ⟨t,rfl⟩:=rv;rw [deq];exact ⟨.str_str _ _ _ _,.str_str _ _ _ _,.str_str _ _ _ _⟩
  | tup j =>
   obtain ⟨p,xs,rfl,h1,h2⟩:=qa hb;cases rv
   obtain ⟨ac,_,t,_⟩:=I.tuple h1
   rw [deq]<;>first | exact ⟨.str_tuple _ _ t hu,.str_tuple _ _ t hu,.str_tuple _ _ t hu⟩ | (intros;contradiction)
  | lst j =>
   obtain ⟨p,xs,rfl,h1,h2⟩:=qi hb;cases rv
   obtain ⟨ac,_,t,_⟩:=I.list (rdL h1)
   have t:=t.isList
   rw [deq]<;>first | exact ⟨.str_list _ _ t hu,.str_list _ _ t hu,.str_list _ _ t hu⟩ | (intros;contradiction)
 | tup i =>
  obtain ⟨q,ys,rfl,g1,g2⟩:=qa ha;cases ru
  obtain ⟨bL,_,t',_⟩:=I.tuple g1
  cases b with
  | non=>have e:=rl hb;subst e;cases rv;rw [deq]<;>first | exact ⟨.tuple_none t' hu,.tuple_none t' hu,.tuple_none t' hu⟩ | (intros;contradiction)
  | bl j=>have e:=qw hb;subst e;cases rv;rw [deq]<;>first | exact ⟨.tuple_bool _ t' hu,.tuple_bool _ t' hu,.tuple_bool _ t' hu⟩ | (intros;contradiction)
  | int j=>have e:=pY hb;subst e;obtain ⟨t,rfl⟩:=rv;rw [deq]<;>first | exact ⟨.tuple_int _ _ t' hu,.tuple_int _ _ t' hu,.tuple_int _ _ t' hu⟩ | (intros;contradiction)
  | str j=>have e:=qy hb;subst e;obtain ⟨t,rfl⟩:=rv;rw [deq]<;>first | exact ⟨.tuple_str _ _ t' hu,.tuple_str _ _ t' hu,.tuple_str _ _ t' hu⟩ | (intros;contradiction)
  | tup j=>exact ht _ _ rfl rfl
  | lst j =>
   obtain ⟨p,xs,rfl,h1,h2⟩:=qi hb;cases rv
   obtain ⟨ac,_,t,_⟩:=I.list (rdL h1)
   have t:=t.isList
   rw [deq]<;>first | exact ⟨.tuple_list t' t hu,.tuple_list t' t hu,.tuple_list t' t hu⟩ | (intros;contradiction)
 | lst i =>
  obtain ⟨q,ys,rfl,g1,g2⟩:=qi ha;cases ru
  obtain ⟨bL,_,t',_⟩:=I.list (rdL g1)
  have t':=t'.isList
  cases b with
  | non=>have e:=rl hb;subst e;cases rv;rw [deq]<;>first | exact ⟨.list_none t' hu,.list_none t' hu,.list_none t' hu⟩ | (intros;contradiction)
  | bl j=>have e:=qw hb;subst e;cases rv;rw [deq]<;>first | exact ⟨.list_bool _ t' hu,.list_bool _ t' hu,.list_bool _ t' hu⟩ | (intros;contradiction)
  | int j=>have e:=pY hb;subst e;obtain ⟨t,rfl⟩:=rv;rw [deq]<;>first | exact ⟨.list_int _ _ t' hu,.list_int _ _ t' hu,.list_int _ _ t' hu⟩ | (intros;contradiction)
  | str j=>have e:=qy hb;subst e;obtain ⟨t,rfl⟩:=rv;rw [deq]<;>first | exact ⟨.list_str _ _ t' hu,.list_str _ _ t' hu,.list_str _ _ t' hu⟩ | (intros;contradiction)
  | lst j=>exact hl _ _ rfl rfl
  | tup j =>
   obtain ⟨p,xs,rfl,h1,h2⟩:=qa hb;cases rv
   obtain ⟨ac,_,t,_⟩:=I.tuple h1
   rw [deq]<;>first | exact ⟨.list_tuple t' t hu,.list_tuple t' t hu,.list_tuple t' t hu⟩ | (intros;contradiction)
open PySem.SeqAt in
theorem sH (I:Inv X U Y H s):∀ (n:Nat) (A:Around),A.units+n < cLine->∀ (a b:D) (x y:V) (u v:Value),dep a<=n\/dep b<=n->Is X.K H a x->Is X.K H b y->RelV x u->RelV y v->RcAt A s u v (deq a b)/\EqAt A s u v (deq a b)/\RcNeAt A s u v (!deq a b):=by
 intro n
 induction n with
 | zero =>
  intro A hu a b x y u v hd ha hb ru rv
  refine BE I (by omega) ha hb ru rv (λxs ys e1 e2=>?_) (λxs ys e1 e2=>?_)<;>(subst e1;subst e2;rw [dep,dep] at hd;omega)
 | succ n ih =>
  intro A hu a b x y u v hd ha hb ru rv
  have eH:A.in1.units+n < cLine:=by show A.units+1+n < cLine;omega
  refine BE I (by omega) ha hb ru rv (λds es e1 e2=>?_) (λds es e1 e2=>?_)
  ·subst e1;subst e2
   obtain ⟨p,xs,rfl,h1,h2⟩:=qa ha
   obtain ⟨q,ys,rfl,h3,h4⟩:=qa hb
   cases ru;cases rv
   obtain ⟨ac,r1,t1,_⟩:=I.tuple h1
   obtain ⟨bL,r2,t2,_⟩:=I.tuple h3
   have l1:ac.toArray.size=ds.length:=by rw [size_toArray,← r1.length,h2.length]
   have l2:bL.toArray.size=es.length:=by rw [size_toArray,← r2.length,h4.length]
   have hk:∀ j (g1:j < ac.toArray.size) (g2:j < bL.toArray.size),EqAt A.in1 s ac.toArray[j] bL.toArray[j] (deq (ds.getD j .non) (es.getD j .non)):=λj g1 g2=>by
    obtain ⟨v1,q1,q2⟩:=h2.getU r1 g1
    obtain ⟨v2,q3,q4⟩:=h4.getU r2 g2
    refine (ih A.in1 eH _ _ _ _ _ _ ?_ q2 q4 q1 q3).2.1
    have m1:ds.getD j .non∈ds:=by
     rw [getD_eq_getElem?_getD,getElem?_eq_getElem (by omega)]
     exact getElem_mem _
    have m2:es.getD j .non∈es:=by
     rw [getD_eq_getElem?_getD,getElem?_eq_getElem (by omega)]
     exact getElem_mem _
    have k1:=qV m1
    have k2:=qV m2
    rw [dep,dep] at hd
    omega
   have re:((range (min ac.toArray.size bL.toArray.size)).all (λj=>deq (ds.getD j .non) (es.getD j .non))&&ac.toArray.size == bL.toArray.size)=deqA ds es:=by
    rw [l1,l2];exact u7 ds es
   have R1:=RcAt.tuples (A:=A) t1 t2 (by omega) hk
   have R3:=RcNeAt.tuples (A:=A) t1 t2 (by omega) hk
   rw [re] at R1 R3
   have ed:deq (.tup ds) (.tup es)=deqA ds es:=by rw [deq]
   rw [ed]
   refine ⟨R1,?_,R3⟩
   by_cases hpq:p=q
   ·subst hpq
    have:=tY I ha hb
    cases this
    rw [um]
    exact .same _
   ·exact .of_refs hpq R1
  ·subst e1;subst e2
   obtain ⟨p,xs,rfl,h1,h2⟩:=qi ha
   obtain ⟨q,ys,rfl,h3,h4⟩:=qi hb
   cases ru;cases rv
   obtain ⟨ac,r1,t1,_⟩:=I.list (rdL h1)
   obtain ⟨bL,r2,t2,_⟩:=I.list (rdL h3)
   have t1:=t1.isList
   have t2:=t2.isList
   have l1:ac.toArray.size=ds.length:=by rw [size_toArray,← r1.length,h2.length]
   have l2:bL.toArray.size=es.length:=by rw [size_toArray,← r2.length,h4.length]
   have ed:deq (.lst ds) (.lst es)=deqA ds es:=by rw [deq]
   rw [ed]
   have fin:RcAt A s (.ref p) (.ref q) (deqA ds es)/\RcNeAt A s (.ref p) (.ref q) (!deqA ds es):=by
    by_cases hl:ds.length=es.length
    ·have hk:∀ j (g1:j < ac.toArray.size) (g2:j < bL.toArray.size),EqAt A.in1 s ac.toArray[j] bL.toArray[j] (deq (ds.getD j .non) (es.getD j .non)):=λj g1 g2=>by
      obtain ⟨v1,q1,q2⟩:=h2.getU r1 g1
      obtain ⟨v2,q3,q4⟩:=h4.getU r2 g2
      refine (ih A.in1 eH _ _ _ _ _ _ ?_ q2 q4 q1 q3).2.1
      have m1:ds.getD j .non∈ds:=by
       rw [getD_eq_getElem?_getD,getElem?_eq_getElem (by omega)]
       exact getElem_mem _
      have m2:es.getD j .non∈es:=by
       rw [getD_eq_getElem?_getD,getElem?_eq_getElem (by omega)]
       exact getElem_mem _
      have k1:=qV m1
      have k2:=qV m2
      rw [dep,dep] at hd
      omega
     have re:(range ac.toArray.size).all (λj=>deq (ds.getD j .non) (es.getD j .non))=deqA ds es:=by
      rw [← u7 ds es,l1,hl,Nat.min_self,beq_self_eq_true,Bool.and_true]
     have R1:=RcAt.lists (A:=A) t1 t2 (by omega) (by omega) hk
     have R3:=RcNeAt.lists (A:=A) t1 t2 (by omega) (by omega) hk
     rw [re] at R1 R3
     exact ⟨R1,R3⟩
    ·rw [F6 hl]
     have fj:(ac.toArray.size != bL.toArray.size)=true:=by rw [l1,l2];simpa using hl
     exact ⟨.lists_lengths t1 t2 fj (by omega),.lists_lengths t1 t2 fj (by omega)⟩
   refine ⟨fin.1,?_,fin.2⟩
   by_cases hpq:p=q
   ·subst hpq
    have:=tY I ha hb
    cases this
    rw [um]
    exact .same _
   ·exact .of_refs hpq fin.1
noncomputable def rEqD (K:PySem.W.Frag) (neg:Bool):R2:=λx y H Q=>∃ a b,Is K H a x/\Is K H b y/\(dep a<=100\/dep b<=100)/\Q (.bl (if neg then !deq a b else deq a b)) H
theorem AE (hu:X.A.units+100 < cLine):OpR X (compareOp .Eq) (rEqD X.K false):=by
 intro U s Y H x y v u Q I rx ry h
 obtain ⟨a,b,h1,h2,h3,q⟩:=h
 exact (sH I 100 X.A hu a b x y v u h3 h1 h2 rx ry).1 _ _ _ _ ⟨.bl (deq a b),H,I,rfl,q⟩
theorem Gq (hu:X.A.units+100 < cLine):OpR X (compareOp .NotEq) (rEqD X.K true):=by
 intro U s Y H x y v u Q I rx ry h
 obtain ⟨a,b,h1,h2,h3,q⟩:=h
 exact (sH I 100 X.A hu a b x y v u h3 h1 h2 rx ry).2.2 _ _ _ _ ⟨.bl (!deq a b),H,I,rfl,q⟩
noncomputable def rInD (K:PySem.W.Frag) (neg:Bool):R2:=λx y H Q=>∃ a ds,Is K H a x/\(Is K H (.lst ds) y\/Is K H (.tup ds) y)/\(dep a<=99)/\Q (.bl (if neg then !ds.any (λd=>deq d a) else ds.any λd=>deq d a)) H
theorem Kb {K:PySem.W.Frag}{ds:List D}{xs:List V}{us:List Value}{f:D->Bool}{e:Value->Bool} (h:IsA K H ds xs) (r:Vals xs us) (hf:∀ d v u,d∈ds->Is K H d v->RelV v u->e u=f d):us.any e=ds.any f:=by
 induction ds generalizing xs us with
 | nil=>have:=h.nil_inv;subst this;cases r;rfl
 | cons d ds ih =>
  obtain ⟨x,xr,rfl,h1,h2⟩:=h.cons_inv
  cases r with
  | cons r1 r2 =>
   rw [any_cons,any_cons,hf d _ _ mem_cons_self h1 r1,ih h2 r2 λd v u hd=>hf d v u (mem_cons_of_mem _ hd)]
theorem Kz (hu:X.A.units+100 < cLine){neg:Bool}{U:List (Addr×Obj)}{Y:L2.St}{H:Hp}{s:Shared}{x y:V}{v u:Value}{Q:VK} (I:Inv X U Y H s) (rx:RelV x v) (ry:RelV y u) (h:rInD X.K neg x y H Q) :
  ∃ (ac:Array Value) (e:Value->Bool) (l:Addr),u=.ref l/\(s.heap.IsList l ac\/s.heap.IsTuple l ac)/\(∀ z,z∈ac->PySem.SeqAt.EqAt X.A.in1 s z v (e z))/\Q (.bl (if neg then !ac.any e else ac.any e)) H:=by
 obtain ⟨a,ds,h1,h2,h3,q⟩:=h
 have eH:X.A.in1.units+99 < cLine:=by show X.A.units+1+99 < cLine;omega
 -- every item has ac data: e reads it off
 have bF:∀ (xs:List V) (ac:List Value),IsA X.K H ds xs->Vals xs ac->∃ e:Value->Bool,(∀ z,z∈ac.toArray->PySem.SeqAt.EqAt X.A.in1 s z v (e z))/\ac.toArray.any e=ds.any λd=>deq d a:=by
  intro xs ac ha r
  have ex:∀ z:Value,∃ b:Bool,∀ d w,d∈ds->Is X.K H d w->RelV w z->b=deq d a:=λz=>by
   by_cases hz:∃ d w,d∈ds/\Is X.K H d w/\RelV w z
   ·obtain ⟨d,w,hd,hi,hr⟩:=hz
    refine ⟨deq d a,λd' w' cx ba mR=>?_⟩
    have:=RelV.inj hr mR
    subst this
    rw [tY I hi ba]
   ·exact ⟨false,λd w hd hi hr=>absurd ⟨d,w,hd,hi,hr⟩ hz⟩
  refine ⟨λz=>(ex z).choose,λz hz=>?_,?_⟩
  ·have mS:z∈ac:=by simpa using hz
   obtain ⟨j,hj,ej⟩:=List.mem_iff_getElem.mp mS
   obtain ⟨w,q1,q2⟩:=ha.getU r (j:=j) (by simpa using hj)
   have kH:RelV w z:=by
    have:ac.toArray[j]'(by simpa using hj)=z:=by simpa using ej
    rw [← this];exact q1
   have hm:ds.getD j .non∈ds:=by
    have l1:=ha.length
    have l2:=r.length
    rw [getD_eq_getElem?_getD,getElem?_eq_getElem (by omega)]
    exact getElem_mem _
   show PySem.SeqAt.EqAt X.A.in1 s z v (ex z).choose
   rw [(ex z).choose_spec _ w hm q2 kH]
   exact (sH I 99 X.A.in1 eH _ a w x z v (.inr h3) q2 h1 kH rx).2.1
  ·have:ac.toArray.any (λz=>(ex z).choose)=ac.any (λz=>(ex z).choose):=by simp
   rw [this]
   exact Kb ha r λd w z hd hi hr=>(ex z).choose_spec d w hd hi hr
 rcases h2 with h2 | h2
 ·obtain ⟨l,xs,rfl,g1,g2⟩:=qi h2
  cases ry
  obtain ⟨ac,r,t,_⟩:=I.list (rdL g1)
  obtain ⟨e,k1,k2⟩:=bF xs ac g2 r
  exact ⟨ac.toArray,e,l,rfl,.inl t.isList,k1,by rw [k2];exact q⟩
 ·obtain ⟨l,xs,rfl,g1,g2⟩:=qa h2
  cases ry
  obtain ⟨ac,r,t,_⟩:=I.tuple g1
  obtain ⟨e,k1,k2⟩:=bF xs ac g2 r
  exact ⟨ac.toArray,e,l,rfl,.inr t,k1,by rw [k2];exact q⟩
theorem Kh (hu:X.A.units+100 < cLine):OpR X (compareOp .In) (rInD X.K false):=by
 intro U s Y H x y v u Q I rx ry h
 obtain ⟨ac,e,l,rfl,hl,he,q⟩:=Kz hu I rx ry h
 rcases hl with hl | hl
 ·exact PySem.SeqAt.in_listAt e hl he ⟨.bl (ac.any e),H,I,rfl,q⟩
 ·exact PySem.SeqAt.in_tupleAt e hl he ⟨.bl (ac.any e),H,I,rfl,q⟩
end
end DL
set_option exponentiation.threshold 2000
namespace DL
open PySem PySem.Spec PyProof.Rows L2
noncomputable def intF (C:Int->Int->Bool) (g:Int->Int->D) (a b:D):Option D:=match a,b with
 | .int i,.int j=>if C i j then some (g i j) else none
 | _,_=>none
theorem yt {C:Int->Int->Bool}{g:Int->Int->D}{a b d:D} (h:intF C g a b=some d):∃ i j,a=.int i/\b=.int j/\C i j=true/\d=g i j:=by
 unfold intF at h
 split at h
 ·obtain ⟨h1,h2⟩:=ql h
  exact ⟨_,_,rfl,rfl,h1,h2⟩
 ·cases h
noncomputable def tt2 (_ _:Int):Bool:=true
theorem od_I {K:PySem.W.Frag}{C:Int->Int->Prop}{c:Int->Int->Bool}{g:Int->Int->Int} (hc:∀ i j,c i j=true->C i j):OpD K (rI C λi j=>.int (g i j)) (intF c λi j=>.int (g i j)):=λa b d e B G I H Y Γ x y Q r hx hy k=>by
 obtain ⟨i,j,rfl,rfl,h,rfl⟩:=yt e
 exact ⟨i,j,pY hx,pY hy,hc i j h,k.now r (Is.int _)⟩
theorem Kp {K:PySem.W.Frag}{g:Int->Int->Int}:OpD K (rI0 λi j=>.int (g i j)) (intF tt2 λi j=>.int (g i j)):=λa b d e B G I H Y Γ x y Q r hx hy k=>by
 obtain ⟨i,j,rfl,rfl,h,rfl⟩:=yt e
 exact ⟨i,j,pY hx,pY hy,k.now r (Is.int _)⟩
theorem qP {K:PySem.W.Frag}{g:Int->Int->Bool}:OpD K (rI0 λi j=>.bl (g i j)) (intF tt2 λi j=>.bl (g i j)):=λa b d e B G I H Y Γ x y Q r hx hy k=>by
 obtain ⟨i,j,rfl,rfl,h,rfl⟩:=yt e
 exact ⟨i,j,pY hx,pY hy,k.now r (Is.bl _)⟩
noncomputable def subI:D->D->Option D:=intF tt2 λi j=>.int (i - j)
noncomputable def mulI:D->D->Option D:=intF (λi j=>decide ((-(2 ^ 64) < i/\i < 2 ^ 64)\/(-(2 ^ 64) < j/\j < 2 ^ 64))) λi j=>.int (i*j)
noncomputable def modI:D->D->Option D:=intF (λ_ j=>decide (0 < j)) λi j=>.int (i % j)
noncomputable def divI:D->D->Option D:=intF (λ_ j=>decide (0 < j/\j < 2 ^ 200)) λi j=>.int (i / j)
noncomputable def powI:D->D->Option D:=intF (λi j=>decide (0<=j/\j<=1000000/\i.natAbs < 2 ^ 64)) λi j=>.int (i ^ j.toNat)
noncomputable def ltI:D->D->Option D:=intF tt2 λi j=>.bl (decide (i < j))
noncomputable def leI:D->D->Option D:=intF tt2 λi j=>.bl (decide (i<=j))
noncomputable def gtI:D->D->Option D:=intF tt2 λi j=>.bl (decide (j < i))
noncomputable def geI:D->D->Option D:=intF tt2 λi j=>.bl (decide (j<=i))
section
variable {X:Cx}{B:BB}{a b c e:Expr}{es:List Expr}{pos:Pos}{ga gb gc:M D}
theorem uC (ha:ED X B a ga) (hb:ED X B b gb):ED X B (.BinOp a .Sub b pos) (op2 subI ga gb):=sC E9 Kp ha hb
theorem qU (ha:ED X B a ga) (hb:ED X B b gb):ED X B (.BinOp a .Mult b pos) (op2 mulI ga gb):=sC Fy (od_I (C:=CMul) λi j h=>(of_decide_eq_true h:_\/_)) ha hb
theorem rj (ha:ED X B a ga) (hb:ED X B b gb):ED X B (.BinOp a .Mod b pos) (op2 modI ga gb):=sC ER (od_I λi j h=>of_decide_eq_true h) ha hb
theorem AG (ha:ED X B a ga) (hb:ED X B b gb):ED X B (.BinOp a .Pow b pos) (op2 powI ga gb):=sC IM (od_I (C:=CPow) λi j h=>(of_decide_eq_true h:_/\_/\_)) ha hb
def CDivW (i j:Int):Prop:=0 < j/\j < 2 ^ 200
theorem EK:OpR X (binaryOp .FloorDiv) (rI CDivW λi j=>.int (i / j)):=opI λi j _ _ _ _ _ hc q=>by
 have h1:(0:Int) < j:=hc.1
 have h2:j.natAbs < 2 ^ 200:=by
  have:=hc.2
  omega
 have h4:j.natAbs.log2 < 9000:=by
  have h5:j.natAbs.log2 < 200:=(Nat.log2_lt (by omega)).mpr h2
  omega
 refine floordiv_int (by omega) ?_ (.inl (PyProof.noPylong_of_log2 h4))
 rw [Int.fdiv_eq_ediv_of_nonneg _ (Int.le_of_lt h1)]
 exact q
theorem Hd (ha:ED X B a ga) (hb:ED X B b gb):ED X B (.BinOp a .FloorDiv b pos) (op2 divI ga gb):=sC EK (od_I (C:=CDivW) λi j h=>(of_decide_eq_true h:_/\_)) ha hb
theorem IE (ha:ED X B a ga) (hb:ED X B b gb):ED X B (.Compare a [.LtE] [b] pos) (op2 leI ga gb):=ya se qP ha hb
theorem wY (ha:ED X B a ga) (hb:ED X B b gb):TD X B (.Compare a [.Lt] [b] pos) (tst (op2 ltI ga gb)):=rZ uU qP ha hb
theorem Cq (ha:ED X B a ga) (hb:ED X B b gb):TD X B (.Compare a [.GtE] [b] pos) (tst (op2 geI ga gb)):=rZ Hr qP ha hb
theorem zM (ha:ED X B a ga) (hb:ED X B b gb) (hc:ED X B c gc) (hm:lastMarks [.LtE,.LtE] [b,c]=false:=by with_unfolding_all rfl):ED X B (.Compare a [.LtE,.LtE] [b,c] pos) (chn leI leI ga gb gc):=G7 se qP se qP ha hb hc hm
theorem uy (ha:ED X B a ga) (hb:ED X B b gb) (hc:ED X B c gc) (hm:lastMarks [.LtE,.LtE] [b,c]=false:=by with_unfolding_all rfl):TD X B (.Compare a [.LtE,.LtE] [b,c] pos) (tst (chn leI leI ga gb gc)):=Ap se qP se qP ha hb hc hm
theorem KN (ha:ED X B a ga) (hb:ED X B b gb) (hc:ED X B c gc) (hm:lastMarks [.LtE,.Lt] [b,c]=false:=by with_unfolding_all rfl):TD X B (.Compare a [.LtE,.Lt] [b,c] pos) (tst (chn leI ltI ga gb gc)):=Ap se qP uU qP ha hb hc hm
noncomputable def eqF (neg:Bool) (a b:D):Option D:=if dep a<=100\/dep b<=100 then some (.bl (if neg then !deq a b else deq a b)) else none
theorem yf {K:PySem.W.Frag}{neg:Bool}:OpD K (rEqD K neg) (eqF neg):=λa b d e B G I H Y Γ x y Q r hx hy k=>by
 obtain ⟨h1,rfl⟩:=ql e
 exact ⟨a,b,hx.mono r.iH,hy.mono r.iH,h1,k.now r (Is.bl _)⟩
variable {kr:Nat}
theorem hu100 {A:Around}{k:Nat} (hr:Room k A):A.units+100 < cLine:=by have:=hr.un;omega
theorem yw (hr:Room kr X.A) (ha:ED X B a ga) (hb:ED X B b gb):ED X B (.Compare a [.Eq] [b] pos) (op2 (eqF false) ga gb):=ya (AE (hu100 hr)) yf ha hb
theorem qJ (hr:Room kr X.A) (ha:ED X B a ga) (hb:ED X B b gb):TD X B (.Compare a [.Eq] [b] pos) (tst (op2 (eqF false) ga gb)):=rZ (AE (hu100 hr)) yf ha hb
theorem rb (hr:Room kr X.A) (ha:ED X B a ga) (hb:ED X B b gb):TD X B (.Compare a [.NotEq] [b] pos) (tst (op2 (eqF true) ga gb)):=rZ (Gq (hu100 hr)) yf ha hb
noncomputable def inF (neg:Bool) (a b:D):Option D:=match seqI b with
 | some ds=>if dep a<=99 then some (.bl (if neg then !ds.any (λd=>deq d a) else ds.any λd=>deq d a)) else none
 | none=>none
theorem DY {K:PySem.W.Frag}{neg:Bool}:OpD K (rInD K neg) (inF neg):=λa b d e B G I H Y Γ x y Q r hx hy k=>by
 unfold inF at e
 cases b with
 | lst ds =>
  obtain ⟨h1,rfl⟩:=ql e
  exact ⟨a,ds,hx.mono r.iH,.inl (hy.mono r.iH),h1,k.now r (Is.bl _)⟩
 | tup ds =>
  obtain ⟨h1,rfl⟩:=ql e
  exact ⟨a,ds,hx.mono r.iH,.inr (hy.mono r.iH),h1,k.now r (Is.bl _)⟩
 | _=>cases e
theorem Jb (hr:Room kr X.A) (ha:ED X B a ga) (hb:ED X B b gb) (hm:behindInMarks .In b=false:=by rfl):TD X B (.Compare a [.In] [b] pos) (tst (op2 (inF false) ga gb)):=rZ (Kh (hu100 hr)) DY ha hb hm
noncomputable def rCatTT (K:PySem.W.Frag):R2:=λx y H Q=>∃ a b xs ys,x=.ref a/\y=.ref b/\SqT K H a xs/\SqT K H b ys/\xs.length+ys.length<=sizeLine ∧
 (xs=[]->Q (.ref b) H)/\(xs≠[]->ys=[]->Q (.ref a) H)/\(xs≠[]->ys≠[]->∀ p,H p=none->Q (.ref p) (upd H p (.tup (xs++ys))))
theorem Iq:OpR X (binaryOp .Add) (rCatTT X.K):=by
 intro U s Y H x y v u Q I rx ry h
 obtain ⟨a,b,xs,ys,rfl,rfl,ha,hb,hz,q0,q1,q2⟩:=h
 cases rx
 cases ry
 obtain ⟨ac,r1,p1,_⟩:=I.tuple ha
 obtain ⟨dW,r2,p2,_⟩:=I.tuple hb
 by_cases hx:xs=[]
 ·subst hx
  cases r1
  obtain ⟨⟨cls,dd,data,sl⟩,ho,hc,n,hd⟩:=id p1
  obtain ⟨⟨kl,gM,data2,gN⟩,dU,cz,n2,cV⟩:=id p2
  simp only at hc hd cz cV
  subst hc hd cz cV
  exact concat_meets ⟨_,ho,rfl⟩ ⟨_,dU,rfl⟩ noFill_tuple_add seq_tuple_add slot_tuple_add entry_tuple_add (args_tuple_add_2 _ _)
   (tuple_addW0 a b _ dW.toArray n n2 dd gM sl gN (by simp)) ⟨ho,dU,⟨.ref b,H,I,rfl,q0 rfl⟩⟩
 ·exact Ip U s Y H (.ref a) (.ref b) _ _ Q I rfl rfl ⟨a,b,xs,ys,rfl,rfl,ha,hb,hx,hz,q1 hx,q2 hx⟩
noncomputable def addF (a b:D):Option D:=match a,b with
 | .int i,.int j=>some (.int (i+j))
 | .tup xs,.tup ys=>if xs.length+ys.length<=lim then some (.tup (xs++ys)) else none
 | .str x,.str y=>if x.length+y.length<=lim then some (.str (x++y)) else none
 | _,_=>none
theorem IsA.ne_nil {K:PySem.W.Frag}{I:Hp}{ds:List D}{xs:List V} (h:IsA K I ds xs):xs=[]↔ds=[]:=by
 have:=h.length
 constructor
 ·intro e;subst e;exact length_eq_zero_iff.mp this
 ·intro e;subst e;exact length_eq_zero_iff.mp this.symm
theorem qm (ha:ED X B a ga) (hb:ED X B b gb):ED X B (.BinOp a .Add b pos) (op2 addF ga gb):=sC ((KC.or Iq).or Dq) (λa b d e B G I H Y Γ x y Q r hx hy k=>by
 unfold addF at e
 split at e
 ·cases e
  exact .inl (.inl ⟨_,_,pY hx,pY hy,k.now r (Is.int _)⟩)
 ·obtain ⟨hl,rfl⟩:=ql e
  obtain ⟨p,xs,rfl,h1,h2⟩:=qa hx
  obtain ⟨q,ys,rfl,h3,h4⟩:=qa hy
  refine .inl (.inr ⟨p,q,xs,ys,rfl,rfl,Same.sqT r.iH h1,Same.sqT r.iH h3,by rw [← h2.length,← h4.length];exact rJ hl,λz=>?_,λ_ z=>?_,λ_ _ p' hp=>k.tup r hp (IsA.append h2 h4)⟩)
  ·have:=h2.ne_nil.mp z
   subst this
   exact k.now r (Is.tup h3 h4)
  ·have:=h4.ne_nil.mp z
   subst this
   rw [append_nil] at k
   exact k.now r (Is.tup h1 h2)
 ·obtain ⟨hl,rfl⟩:=ql e
  exact .inr ⟨_,_,qy hx,qy hy,rJ hl,k.now r (Is.str _)⟩
 ·cases e) ha hb
noncomputable def rCatR (K:PySem.W.Frag):R2:=λx y H Q=>∃ l b xs zs,x=.ref l/\y=.ref b/\RdK K H l xs/\RdK K H b zs/\xs.length+zs.length<=sizeLine/\∀ p,H p=none->Q (.ref p) (upd H p (.lst (xs++zs)))
theorem IX:OpR X (binaryOp .Add) (rCatR X.K):=by
 intro U s Y H x y v u Q I rx ry h
 obtain ⟨l,b,xs,zs,rfl,rfl,hH,hB,hz,q⟩:=h
 cases rx
 cases ry
 obtain ⟨z,ac,n,r,hl,e⟩:=Ah I hH
 obtain ⟨z2,dW,n2,r2,jg,e2⟩:=Ah I hB
 refine PySem.P.add_list e e2 ?_ (by rw [size_toArray,size_toArray];omega)
 have ea:ac.toArray++dW.toArray=(ac++dW).toArray:=by simp
 rw [ea]
 exact ⟨.ref _,_,I.lnew (t':=s.toks) (r.append r2) (by rw [length_append];omega),rfl,q _ I.fresh⟩
noncomputable def catF (a b:D):Option (List D):=match a,b with
 | .lst xs,.lst ys=>if xs.length+ys.length<=lim then some (xs++ys) else none
 | _,_=>none
theorem As (ha:ED X B a ga) (hb:ED X B b gb):EO X B (.BinOp a .Add b pos) (op2 catF ga gb):=Fx IX (λa b d e B G I H Y Γ x y Q r hx hy k=>by
 unfold catF at e
 split at e
 ·obtain ⟨hl,rfl⟩:=ql e
  obtain ⟨p,xs,rfl,h1,h2⟩:=qi hx
  obtain ⟨q,ys,rfl,h3,h4⟩:=qi hy
  exact ⟨p,q,xs,ys,rfl,rfl,Same.rdK r.iH h1,Same.rdK r.iH h3,by rw [← h2.length,← h4.length];exact rJ hl,λp' hp=>k.new r hp (IsA.append h2 h4)⟩
 ·cases e) ha hb
theorem IsA.at {K:PySem.W.Frag}{I:Hp}{ds:List D}{xs:List V}{i:Int}{d:D} (h:IsA K I ds xs) (e:atI ds i=some d):∃ x,atI xs i=some x/\Is K I d x:=by
 unfold atI at e ⊢
 rw [← h.length]
 cases hj:ixN ds.length i with
 | none=>rw [hj] at e;cases e
 | some j =>
  rw [hj] at e
  exact h.get e
noncomputable def ixF (a b:D):Option D:=match seqI a,asI b with
 | some ds,some i=>atI ds i
 | _,_=>none
theorem CN {a b d:D} (h:ixF a b=some d):∃ ds i,(a=.lst ds\/a=.tup ds)/\b=.int i/\atI ds i=some d:=by
 unfold ixF at h
 cases a<;>cases b<;>simp [seqI,asI] at h
 ·exact ⟨_,_,.inr rfl,rfl,h⟩
 ·exact ⟨_,_,.inl rfl,rfl,h⟩
theorem qf (ha:ED X B a ga) (hb:ED X B b gb) (hs:PlainIx b:=by exact λ_ _=>rfl):ED X B (.Subscript a b pos) (op2 ixF ga gb):=Gf (Be.or EE) (λa b d e B G I H Y Γ x y Q r hx hy k=>by
 obtain ⟨ds,i,h1,rfl,h2⟩:=CN e
 rcases h1 with rfl | rfl
 ·obtain ⟨p,xs,rfl,h3,h4⟩:=qi hx
  obtain ⟨v,e5,e6⟩:=h4.at h2
  exact .inl ⟨p,xs,i,v,rfl,pY hy,(Same.rdK r.iH h3).sq,e5,k.now r e6⟩
 ·obtain ⟨p,xs,rfl,h3,h4⟩:=qa hx
  obtain ⟨v,e5,e6⟩:=h4.at h2
  exact .inr ⟨p,xs,i,v,rfl,pY hy,Same.sqT r.iH h3,e5,k.now r e6⟩) ha hb hs
noncomputable def look (i:Nat):M D:=λΓ=>match Γ[i]? with
 | some (some (.own ds))=>some (.lst ds,Γ)
 | some (some (.bor ds))=>some (.lst ds,Γ)
 | _=>none
theorem Kc {K:PySem.W.Frag}{G I H:Hp}{Y:L2.St}{Γ aa:Gm}{i:Nat}{d:D} (h:look i Γ=some (d,aa)) (r:Rep K B G I H Y Γ):aa=Γ/\∃ p xs ds,d=.lst ds/\Y[i]?=some (some (.ref p))/\H p=some (.lst xs)/\IsA K I ds xs:=by
 unfold look at h
 cases e:Γ[i]? with
 | none=>rw [e] at h;cases h
 | some o =>
  cases o with
  | none=>rw [e] at h;cases h
  | some q =>
   rw [e] at h
   obtain ⟨v,h1,h2⟩:=r.slot i q e
   cases q with
   | val _=>cases h
   | own ds=>cases h;obtain ⟨p,xs,rfl,g1,_,_,g4⟩:=h2;exact ⟨rfl,p,xs,ds,rfl,h1,g1,g4⟩
   | fro ds=>cases h
   | dic ds=>cases h
   | bor ds=>cases h;obtain ⟨p,xs,rfl,g1,_,_,g4⟩:=h2;exact ⟨rfl,p,xs,ds,rfl,h1,g1,g4⟩
noncomputable def atN (i:Nat) (g:M D):M D:=mutS i (bnd g λn=>bnd (look i) λl=>lft (ixF l n))
theorem ra {i:Nat}{x:Str}{p1:Pos} (hv:PE X (.Name x p1) (tVar i)) (hb:ED X B b gb) (hs:PlainIx b:=by exact λ_ _=>rfl):ED X B (.Subscript (.Name x p1) b pos) (atN i gb):=PE.imp (zA Be hv hb hs) λY H Q q=>by
 obtain ⟨G,I,Γ,d,aa,r,e1,k⟩:=q
 obtain ⟨hm,e1⟩:=uo e1
 obtain ⟨n,Z,e2,e3⟩:=pO e1
 obtain ⟨l,ah,e4,e5⟩:=pO e3
 obtain ⟨e6,rfl⟩:=qe e5
 obtain ⟨p,xs,h1,h2⟩:=t7 hm r
 refine ⟨_,h1,G,I,Γ,n,Z,r,e2,λv H1 I1 r1 g1 hn=>?_⟩
 obtain ⟨rfl,p',bK,ds,rfl,f1,f2,f3⟩:=Kc e4 r1
 have hp:p'=p:=by rw [h1] at f1;cases f1;rfl
 subst hp
 obtain ⟨bZ,j,g2,rfl,g3⟩:=CN e6
 rcases g2 with g2 | g2
 ·cases g2
  obtain ⟨y,e7,e8⟩:=f3.at g3
  exact ⟨p',bK,j,y,rfl,pY hn,SqL.of f2,e7,(k.after g1).now r1 e8⟩
 ·cases g2
noncomputable def lenF (ds:List D):Option D:=match ds with
 | [.lst xs]=>some (.int xs.length)
 | [.tup xs]=>some (.int xs.length)
 | _=>none
theorem Jp {ds:List D}{d:D} (h:lenF ds=some d):∃ xs,(ds=[.lst xs]\/ds=[.tup xs])/\d=.int xs.length:=by
 unfold lenF at h
 split at h
 ·cases h;exact ⟨_,.inl rfl,rfl⟩
 ·cases h;exact ⟨_,.inr rfl,rfl⟩
 ·cases h
theorem rM {p:Pos}{t:M (List D)} (hg:Gl X "len") (hm:X.mg "len"=none) (ha:AD X B [e] t) (he:starEach [e] X.env=(false,eval e X.env)::starEach [] X.env:=by rfl) (aA:(backTo pos (starEach [] X.env)).any (·.1)=false:=by rfl) :
  ED X B (.Call (.Name "len" p) [e] [] pos) (fn1 lenF t):=sd HJ (λds d e B G I H Y Γ xs Q r h k=>by
 obtain ⟨ys,h1,rfl⟩:=Jp e
 rcases h1 with rfl | rfl
 ·obtain ⟨x,rfl,hx⟩:=h.one
  obtain ⟨q,zs,rfl,h3,h4⟩:=qi hx
  exact ⟨q,zs,rfl,.inl ((Same.rdK r.iH h3).sq),by rw [h4.length] at k;exact k.now r (Is.int _)⟩
 ·obtain ⟨x,rfl,hx⟩:=h.one
  obtain ⟨q,zs,rfl,h3,h4⟩:=qa hx
  exact ⟨q,zs,rfl,.inr (Same.sqT r.iH h3),by rw [h4.length] at k;exact k.now r (Is.int _)⟩) hg hm PySem.boot_len ha (by decide) (by decide) he aA
def partD (e:Option Expr) (X:Cx) (B:BB) (g:M (Option Int)):Prop:=PO X e (λY H Q=>∃ G I Γ o aa,Rep X.K B G I H Y Γ/\g Γ=some (o,aa)/\∀ H' I',Rep X.K B G I' H' Y aa->Grow G I I'->Q o H')
theorem qI:partD none X B (ret none):=λU s Y H Q I h=>EJ U s Y H Q I (by
 obtain ⟨G,I,Γ,o,aa,r,e1,k⟩:=h
 cases e1
 exact k _ _ r (Grow.refl _ _))
noncomputable def prt (g:M D):M (Option Int):=bnd g λd=>bnd (lft (asI d)) λi=>ret (some i)
theorem qE (ha:ED X B a ga):partD (some a) X B (prt ga):=λU s Y H Q I h=>HZ ha U s Y H Q I (by
 obtain ⟨G,I,Γ,o,aa,r,e1,k⟩:=h
 obtain ⟨d,Z,e2,e3⟩:=pO e1
 obtain ⟨i,ah,e4,e5⟩:=pO e3
 cases e5
 obtain ⟨e6,rfl⟩:=qe e4
 have:=Bu e6
 subst this
 exact ⟨G,I,Γ,_,_,r,e2,λv H1 I1 r1 g1 hv=>⟨i,pY hv,k _ _ r1 g1⟩⟩)
noncomputable def cutD (ds:List D) (lo hi:Option Int):List D:=(ds.drop (HT.sIx ds.length 0 lo)).take (HT.sIx ds.length ds.length hi - HT.sIx ds.length 0 lo)
theorem IsA.cut {K:PySem.W.Frag}{I:Hp}{ds:List D}{xs:List V} (h:IsA K I ds xs) (lo hi:Option Int):IsA K I (cutD ds lo hi) (cutV xs lo hi):=by
 unfold cutD cutV
 rw [← h.length]
 exact (h.drop _).take _
noncomputable def slF (d:D) (lo hi:Option Int):Option D:=match d with
 | .lst ds=>some (.lst (cutD ds lo hi))
 | .tup ds=>if HT.sIx ds.length 0 lo=0/\HT.sIx ds.length ds.length hi=ds.length then none else some (.tup (cutD ds lo hi))
 | _=>none
noncomputable def sl3 {α:Type} (F:D->Option Int->Option Int->Option α) (g:M D) (gl gh:M (Option Int)):M α:=bnd g λd=>bnd gl λl=>bnd gh λh=>lft (F d l h)
theorem qT {lo hi:Option Expr}{p2:Pos}{gl gh:M (Option Int)} (ha:ED X B a ga) (hl:partD lo X B gl) (hh:partD hi X B gh):ED X B (.Subscript a (.Slice lo hi none p2) pos) (sl3 slF ga gl gh):=PE.imp (CA (FW.or JH) ha hl hh) λY H Q q=>by
 obtain ⟨G,I,Γ,d,aa,r,e1,k⟩:=q
 obtain ⟨c,Z,e2,e3⟩:=pO e1
 obtain ⟨l,ah,e4,e5⟩:=pO e3
 obtain ⟨h,aK,e6,e7⟩:=pO e5
 obtain ⟨e8,rfl⟩:=qe e7
 refine ⟨G,I,Γ,c,Z,r,e2,λv H1 I1 r1 g1 hv=>⟨G,I1,Z,l,ah,r1,e4,λH2 I2 r2 g2=>⟨G,I2,ah,h,_,r2,e6,λH3 I3 r3 g3=>?_⟩⟩⟩
 have gg:=g1.trans (g2.trans g3)
 have fQ:=hv.mono (g2.trans g3).up
 cases c with
 | lst ds =>
  cases e8
  obtain ⟨p,xs,rfl,h3,h4⟩:=qi fQ
  refine .inl ⟨p,xs,rfl,(Same.rdK r3.iH h3).sq,λp' hp=>?_⟩
  exact (k.after gg) _ _ _ (r3.alloc hp _) (r3.growAlloc hp _) (Is.lst (RdK.of qj) ((h4.cut l h).mono (qD (r3.iFree hp) _)))
 | tup ds =>
  unfold slF at e8
  by_cases hw:HT.sIx ds.length 0 l=0/\HT.sIx ds.length ds.length h=ds.length
  ·simp only [hw,and_self,if_true] at e8;cases e8
  ·simp only [if_neg hw] at e8;cases e8
   obtain ⟨p,xs,rfl,h3,h4⟩:=qa fQ
   exact .inr ⟨p,xs,rfl,Same.sqT r3.iH h3,by rw [← h4.length];exact hw,λp' hp=>(k.after gg).tup r3 hp (h4.cut l h)⟩
 | _=>cases e8
noncomputable def minF (ds:List D):Option D:=match ds with
 | [.int i,.int j]=>some (.int (if j < i then j else i))
 | _=>none
theorem E8 {p:Pos}{t:M (List D)} (hc:X.calm=true) (hg:Gl X "min") (hm:X.mg "min"=none) (ha:AD X B (e::es) t) (he:starEach (e::es) X.env=(false,eval e X.env)::starEach es X.env:=by rfl) (aA:(backTo pos (starEach es X.env)).any (·.1)=false:=by rfl) :
  ED X B (.Call (.Name "min" p) (e::es) [] pos) (fn1 minF t):=sd (HA hc) (λds d e B G I H Y Γ xs Q r h k=>by
 unfold minF at e
 split at e
 ·cases e
  obtain ⟨x,y,rfl,hx,hy⟩:=h.two
  exact ⟨_,_,by rw [pY hx,pY hy],k.now r (Is.int _)⟩
 ·cases e) hg hm boot_min ha (by decide) (by decide) he aA
noncomputable def tupF (ds:List D):Option D:=match ds with
 | [.lst xs]=>some (.tup xs)
 | [.tup xs]=>some (.tup xs)
 | _=>none
noncomputable def lstF (ds:List D):Option (List D):=match ds with
 | [.lst xs]=>some xs
 | [.tup xs]=>some xs
 | _=>none
theorem rf {p:Pos}{t:M (List D)} (hg:Gl X "tuple") (hm:X.mg "tuple"=none) (ha:AD X B [e] t) (he:starEach [e] X.env=(false,eval e X.env)::starEach [] X.env:=by rfl) (aA:(backTo pos (starEach [] X.env)).any (·.1)=false:=by rfl) :
  ED X B (.Call (.Name "tuple" p) [e] [] pos) (fn1 tupF t):=wf Dj (λds d e B G I H Y Γ xs Q r h k=>by
 unfold tupF at e
 split at e
 ·cases e
  obtain ⟨x,rfl,hx⟩:=h.one
  obtain ⟨q,zs,rfl,h3,h4⟩:=qi hx
  exact ⟨q,zs,rfl,.inl ⟨(Same.rdK r.iH h3).sq,λp' hp=>k.tup r hp h4⟩⟩
 ·cases e
  obtain ⟨x,rfl,hx⟩:=h.one
  obtain ⟨q,zs,rfl,h3,h4⟩:=qa hx
  exact ⟨q,zs,rfl,.inr ⟨Same.sqT r.iH h3,k.now r (Is.tup h3 h4)⟩⟩
 ·cases e) hg hm boot_tuple ha (by decide) (by decide) he aA
theorem BZ {p:Pos}{t:M (List D)} (hg:Gl X "list") (hm:X.mg "list"=none) (ha:AD X B [e] t) (he:starEach [e] X.env=(false,eval e X.env)::starEach [] X.env:=by rfl) (aA:(backTo pos (starEach [] X.env)).any (·.1)=false:=by rfl) :
  EO X B (.Call (.Name "list" p) [e] [] pos) (fn1 lstF t):=DU FJ (λds d e B G I H Y Γ xs Q r h k=>by
 unfold lstF at e
 split at e
 ·cases e
  obtain ⟨x,rfl,hx⟩:=h.one
  obtain ⟨q,zs,rfl,h3,h4⟩:=qi hx
  exact ⟨q,zs,rfl,.inl ((Same.rdK r.iH h3).sq),λp' hp=>k.new r hp h4⟩
 ·cases e
  obtain ⟨x,rfl,hx⟩:=h.one
  obtain ⟨q,zs,rfl,h3,h4⟩:=qa hx
  exact ⟨q,zs,rfl,.inr (Same.sqT r.iH h3),λp' hp=>k.new r hp h4⟩
 ·cases e) hg hm boot_list ha (by decide) (by decide) he aA
noncomputable def isN (d:D):Bool:=match d with
 | .non=>true
 | _=>false
noncomputable def isNF (neg:Bool) (a b:D):Option D:=match b with
 | .non=>some (.bl (if neg then !isN a else isN a))
 | _=>none
theorem Fq {K:PySem.W.Frag}{I:Hp}{a:D}{x:V} (h:Is K I a x):decide (x=V.non)=isN a:=by
 cases a with
 | non=>rw [rl h];rfl
 | bl _=>rw [qw h];rfl
 | int _=>rw [pY h];rfl
 | str _=>rw [qy h];rfl
 | tup _=>obtain ⟨_,_,rfl,_⟩:=qa h;rfl
 | lst _=>obtain ⟨_,_,rfl,_⟩:=qi h;rfl
theorem EA {K:PySem.W.Frag}:OpD K (λx y H Q=>y=.non/\Q (.bl (!decide (x=.non))) H) (isNF true):=λa b d e B G I H Y Γ x y Q r hx hy k=>by
 unfold isNF at e
 split at e
 ·cases e;exact ⟨rl hy,by rw [Fq hx];exact k.now r (Is.bl _)⟩
 ·cases e
theorem vS (ha:ED X B a ga) (hb:ED X B b gb):TD X B (.Compare a [.IsNot] [b] pos) (tst (op2 (isNF true) ga gb)):=rZ Ku EA ha hb
noncomputable def isBF (neg:Bool) (a b:D):Option D:=match a,b with
 | .bl c,.bl d=>some (.bl (if neg then c != d else c == d))
 | _,_=>none
theorem Hm:OpR X (compareOp .IsNot) (λx y H Q=>∃ c d,x=.bl c/\y=.bl d/\Q (.bl (c != d)) H):=by
 intro U s Y H x y v u Q I rx ry h
 obtain ⟨c,d,rfl,rfl,q⟩:=h
 cases rx;cases ry
 exact isnot_bool ⟨.bl _,H,I,rfl,q⟩
theorem Gs {K:PySem.W.Frag}:OpD K (λx y H Q=>∃ c d,x=.bl c/\y=.bl d/\Q (.bl (c != d)) H) (isBF true):=λa b d e B G I H Y Γ x y Q r hx hy k=>by
 unfold isBF at e
 split at e
 ·cases e;exact ⟨_,_,qw hx,qw hy,k.now r (Is.bl _)⟩
 ·cases e
theorem Ic (ha:ED X B a ga) (hb:ED X B b gb):TD X B (.Compare a [.IsNot] [b] pos) (tst (op2 (isBF true) ga gb)):=rZ Hm Gs ha hb
end
structure Kd where
 it:Heap->Addr->Addr->Nat->Prop
 sq:Heap->Addr->Array Value->Prop
 nm:String
structure KdOk (k:Kd):Prop where
 itAt:∀ {h h':Heap}{i l:Addr}{n:Nat},k.it h i l n->(∀ o,h.get? i=some o->h'.get? i=some o)->k.it h' i l n
 sqAt:∀ {h h':Heap}{l:Addr}{xs:Array Value},k.sq h l xs->(∀ o,h.get? l=some o->h'.get? l=some o)->k.sq h' l xs
 itLt:∀ {h:Heap}{i l:Addr}{n:Nat},k.it h i l n->i < h.objs.size
 sqLt:∀ {h:Heap}{l:Addr}{xs:Array Value},k.sq h l xs->l < h.objs.size
 itObj:∀ {h:Heap}{i l:Addr}{n:Nat},k.it h i l n->∃ o,h.get? i=some o/\∀ v,o.data≠.cell v
 iter:∀ {prog:Program}{w:World}{A:Around}{E:Value->Shared->Prop}{s:Shared}{l:Addr}{xs:Array Value}{Q:Value->Shared->Prop},k.sq s.heap l xs →
  Q (.ref s.heap.objs.size) { s with heap:=s.heap.push { cls:=.type k.nm,data:=.fields #[.ref l,.int 0 0] } }->wpAny (model prog w) A (pyIter (.ref l)) Q E s
 new:∀ {h:Heap}{l:Addr},k.it (h.push { cls:=.type k.nm,data:=.fields #[.ref l,.int 0 0] }) h.objs.size l 0
 item:∀ {prog:Program}{w:World}{A:Around}{E:Value->Shared->Prop}{s:Shared}{i l:Addr}{n:Nat}{xs:Array Value}{x:Value}{Q:Value->Shared->Prop},k.it s.heap i l n->k.sq s.heap l xs->xs[n]?=some x →
  (∀ h',k.it h' i l (n+1)->Heap.SameBut i s.heap h'->Q x { s with heap:=h' })->wpAny (model prog w) A (nextOf (.ref i)) Q E s
 stop:∀ {prog:Program}{w:World}{A:Around}{E:Value->Shared->Prop}{s:Shared}{i l:Addr}{n:Nat}{xs:Array Value}{Q:Value->Shared->Prop},A.handled=none->k.it s.heap i l n->k.sq s.heap l xs->xs[n]?=none →
  (∀ h' e,Heap.ExtBut i s.heap h'->(∃ o,h'.get? e=some o/\o.cls=.type "StopIteration")->E (.ref e) { s with heap:=h' })->wpAny (model prog w) A (nextOf (.ref i)) Q E s
noncomputable def kdL:Kd:=⟨λh i l n=>h.IsListIter i l n,λh l xs=>h.IsList l xs, "list_iterator"⟩
noncomputable def kdT:Kd:=⟨λh i l n=>h.IsTupleIter i l n,λh l xs=>h.IsTuple l xs, "tuple_iterator"⟩
theorem JZ:KdOk kdL where
 itAt:=λh k=>h.at k
 sqAt:=λh k=>h.at k
 itLt:=λh=>by obtain ⟨_,e,_⟩:=h;exact lt_size e
 sqLt:=λh=>by obtain ⟨_,e,_⟩:=h;exact lt_size e
 itObj:=λh=>by obtain ⟨o,e,_,d⟩:=h;exact ⟨o,e,λv z=>by rw [d] at z;cases z⟩
 iter:=λh q=>wpAny_pyIter_list h q
 new:=⟨_,get?_push_size _ rfl,rfl,rfl⟩
 item:=λh1 h2 h3 q=>wpAny_nextOf_list_item h1 h2 h3 q
 stop:=λhh h1 h2 h3 q=>wpAny_nextOf_list_end hh h1 h2 h3 q
section
variable {prog:Program}{w:World}{A:Around}{E:Value->Shared->Prop}{s:Shared}
theorem HS {α:Type}{Q:α->Shared->Prop} (hh:A.handled=none)
  (k:∀ (g:Heap) (x:Addr),(∀ b o,s.heap.get? b=some o->g.get? b=some o)->(∃ o,g.get? x=some o/\o.cls=.type "StopIteration")->E (.ref x) { s with heap:=g }) :
  wpAny (model prog w) A (stopIteration (α:=α)) Q E s:=by
 unfold stopIteration newExc newTuple
 refine wpAny_bind (wpAny_bind (wpAny_newObj_type (wpAny_bind (wpAny_of_eq (a:=Value.none) (by first | rfl | (simp only [firstArgMember];rfl)) (wpAny_newObj_type ?_ (by size_fits)))) (by size_fits)))
 unfold raiseNew
 refine wpAny_bind (wpAny_handled ?_)
 rw [hh]
 exact wpAny_bind (wpAny_pure (wpAny_throw (k _ _ (λb o e=>get?_push_of_some _ (get?_push_of_some _ e)) ⟨_,get?_push_size _ rfl,rfl⟩)))
theorem Cv {bi tp:Addr}{i:Nat}{cells:Array Value}{Q:Value->Shared->Prop} (hi:s.heap.IsTupleIter bi tp i) (hT:s.heap.IsTuple tp cells)
  (one:∀ v,cells[i]?=some v->∀ g:Heap,g.IsTupleIter bi tp (i+1)->Heap.SameBut bi s.heap g->Q v { s with heap:=g })
  (non:cells[i]?=none->A.handled=none/\∀ (g:Heap) (x:Addr),Heap.ExtBut bi s.heap g->(∃ o,g.get? x=some o/\o.cls=.type "StopIteration")->E (.ref x) { s with heap:=g }) :
  wpAny (model prog w) A (nextOf (.ref bi)) Q E s:=by
 have ty:=hi.typeIs
 obtain ⟨oi,gi,ci,di⟩:=hi
 obtain ⟨ot,gt,ct,nt,dt⟩:=hT
 unfold nextOf
 refine wpAny_bind (wpAny_callSpecial?_slot (name:=ofString "__next__") ty F.slot_tuple_iterator_next (wpAny_call_entry F.slot_tuple_iterator_next ty F.entry_tuple_iterator_next ?_ (F.args_tuple_iterator_next_1 _)))
 refine wpAny_bind (wpAny_of_eq (a:=(Value.ref bi,[])) rfl ?_)
 refine wpAny_bind (wpAny_field (i:=0) gi di (x:=.ref tp) rfl (wpAny_ite_split (λno=>absurd no Bool.false_ne_true) λ_=>?_))
 refine wpAny_bind (wpAny_field (i:=1) gi di (x:=.int i 0) rfl (wpAny_bind (wpAny_seqItems gt dt ?_)))
 dsimp only
 rw [toNat_natCast]
 cases hv:cells[i]? with
 | some v =>
  refine wpAny_bind (wpAny_setField gi di (by simp) (wpAny_pure ⟨v,rfl,wpAny_pure (one v hv _ ?_ (Heap.SameBut.update ..))⟩))
  have low:=data_mapFields di
  exact ⟨_,get?_update_self _ gi (Obj.isFreed_of_fields (low _)),(Obj.cls_mapFields ..).trans ci,by rw [low];simp [rawInt]⟩
 | none =>
  obtain ⟨hh,k⟩:=non hv
  refine wpAny_bind (wpAny_rule (wpAny_bind (wpAny_setField gi di (by simp) (HS hh λg x keep is=>k g x (λb o ne e=>keep b o ((Heap.SameBut.update ..).extBut b o ne e)) is))))
end
theorem Gg:KdOk kdT where
 itAt:=λh k=>by obtain ⟨o,e,r⟩:=h;exact ⟨o,k o e,r⟩
 sqAt:=λh k=>by obtain ⟨o,e,r⟩:=h;exact ⟨o,k o e,r⟩
 itLt:=λh=>by obtain ⟨_,e,_⟩:=h;exact lt_size e
 sqLt:=λh=>by obtain ⟨_,e,_⟩:=h;exact lt_size e
 itObj:=λh=>by obtain ⟨o,e,_,d⟩:=h;exact ⟨o,e,λv z=>by rw [d] at z;cases z⟩
 iter:=λh q=>wpAny_pyIter_tuple h q
 new:=⟨_,get?_push_size _ rfl,rfl,rfl⟩
 item:=λh1 h2 h3 q=>Cv h1 h2 (λv e g=>by rw [h3] at e;cases e;exact q g) λe=>by rw [h3] at e;cases e
 stop:=λhh h1 h2 h3 q=>Cv h1 h2 (λv e=>by rw [h3] at e;cases e) λ_=>⟨hh,q⟩
theorem Il {X:Cx}{U:List (Addr×Obj)}{Y:L2.St}{H:Hp}{s:Shared}{h':Heap}{t':Nat}{ch:List Addr}{T:Addr}{o:HO} (I:Inv X U Y H s) (aV:∀ b∈ch,FpOk X U H b) (k:∀ b u,b∉ch->s.heap.get? b=some u->h'.get? b=some u)
  (hT:s.heap.objs.size<=T) (new:ObjOk X.prog X.w (upd H T o) h' T o):Inv X U Y (upd H T o) { s with heap:=h',toks:=t' }:=by
 have hf:=I.hok.fresh hT
 have ne:∀ {b u},H b=some u->b≠T:=λ{b u} e=>rh e hf
 have ce:∀ {b u},H b=some u->b∉ch:=λ{b u} e z=>by have:=(aV b z).1;rw [e] at this;cases this
 refine I.step (g':=s.gens) (d':=s.drawn) (ch:=ch) (λb hb=>⟨(aV b hb).2.2.2.1,(aV b hb).2.1,(aV b hb).2.2.2.2.1,(aV b hb).2.2.2.2.2⟩) (λb u _ _ hc e _=>k b u hc e) (λb u _ _ hc e _=>⟨u.slots,k b u hc e⟩) (λb u hc e n=>?_)
  (λb u hc e=>⟨u,k b u hc e⟩) (λb xs e=>by rw [pV (ne e)];exact e) (λb u v e=>by rw [pV (ne e)];exact e) (λb ps e=>⟨#[],by rw [pV (ne e),e];simp⟩) (λm hm=>?_) (λb u e=>?_) I.bare
 ·have nb:b≠T:=λz=>by have:=lt_size e;rw [z] at this;exact absurd (lt_of_lt_of_le this hT) (lt_irrefl _)
  rw [pV nb];exact n
 ·obtain ⟨ob,es,ep,ho,r⟩:=hm
  exact ⟨ob,es,ep,k _ ob (λz=>(aV _ z).2.1 rfl) ho,r⟩
 ·by_cases hb:b=T
  ·subst hb;rw [qj] at e;cases e;exact new
  ·rw [pV hb] at e
   refine (I.hok b u e).stay (λc v hc q=>k c v ?_ q) (λc q=>by rw [pV (ne q)];exact q) λc xs q=>by rw [pV (ne q)];exact q
   rcases hc with z | z
   ·rw [z];exact ce e
   ·exact ce z
theorem E2 {X:Cx}{U:List (Addr×Obj)}{Y:L2.St}{H:Hp}{s:Shared}{h':Heap}{t':Nat}{ch:List Addr} (I:Inv X U Y H s) (aV:∀ b∈ch,FpOk X U H b) (k:∀ b u,b∉ch->s.heap.get? b=some u->h'.get? b=some u):Inv X U Y H { s with heap:=h',toks:=t' }:=by
 have ce:∀ {b u},H b=some u->b∉ch:=λ{b u} e z=>by have:=(aV b z).1;rw [e] at this;cases this
 refine I.step (g':=s.gens) (d':=s.drawn) (ch:=ch) (λb hb=>⟨(aV b hb).2.2.2.1,(aV b hb).2.1,(aV b hb).2.2.2.2.1,(aV b hb).2.2.2.2.2⟩) (λb u _ _ hc e _=>k b u hc e) (λb u _ _ hc e _=>⟨u.slots,k b u hc e⟩) (λb u hc e n=>n)
  (λb u hc e=>⟨u,k b u hc e⟩) (λb xs e=>e) (λb u v e=>e) (λb ps e=>⟨#[],by rw [e];simp⟩) (λm hm=>?_) (λb u e=>?_) I.bare
 ·obtain ⟨ob,es,ep,ho,r⟩:=hm
  exact ⟨ob,es,ep,k _ ob (λz=>(aV _ z).2.1 rfl) ho,r⟩
 ·refine (I.hok b u e).stay (λc v hc q=>k c v ?_ q) (λc q=>q) λc xs q=>q
  rcases hc with z | z
  ·rw [z];exact ce e
  ·exact ce z
section
variable {X:Cx}{k:Kd}
structure KdRd (K:PySem.W.Frag) (k:Kd) (rd:Hp->Addr->List V->Prop):Prop where
 of:∀ {X:Cx}{U:List (Addr×Obj)}{Y:L2.St}{H:Hp}{s:Shared}{a:Addr}{xs:List V},X.K=K->Inv X U Y H s->rd H a xs->∃ ac:List Value,Vals xs ac/\k.sq s.heap a ac.toArray
 inj:∀ {X:Cx}{U:List (Addr×Obj)}{Y:L2.St}{H:Hp}{s:Shared}{a:Addr}{xs ys:List V},X.K=K->Inv X U Y H s->rd H a xs->rd H a ys->xs=ys
theorem Jd (K:PySem.W.Frag):KdRd K kdL (λH a xs=>SqL K H a xs) where
 of:=λe I h=>by subst e;obtain ⟨ac,r,t,_⟩:=I.list h;exact ⟨ac,r,t.isList⟩
 inj:=λe I h h'=>by subst e;exact I.list_inj h h'
theorem Dk (K:PySem.W.Frag):KdRd K kdT (λH a xs=>SqT K H a xs) where
 of:=λe I h=>by subst e;obtain ⟨ac,r,t,_⟩:=I.tuple h;exact ⟨ac,r,t⟩
 inj:=λe I h h'=>by subst e;exact I.tuple_inj h h'
end
section
variable {X:Cx}{B:BB}{a b c e:Expr}{es:List Expr}{pos:Pos}{ga gb gc:M D}
noncomputable def pairsD (xs ys:List D):List D:=(xs.zip ys).map λp=>.tup [p.1,p.2]
noncomputable def zipI (ds:List D):Option (List D):=match ds with
 | [.lst xs,.lst ys]=>some (pairsD xs ys)
 | [.tup xs,.tup ys]=>some (pairsD xs ys)
 | _=>none
section
variable {k:Kd}
theorem drawsK (ok:KdOk k){prog:Program}{w:World}{A:Around} (hh:A.handled=none) (it l:Addr) (fj:l≠it) (ag:Array Value):Draws prog w A it [it,l] ag.size (λi v=>ag[i]?=some v) (λi h=>k.it h it l i/\k.sq h l ag) where
 live:=λi h st=>by obtain ⟨o,e,_⟩:=ok.itObj st.1;exact ⟨o,e⟩
 frame:=λi h h' st kk=>⟨ok.itAt st.1 λo e=>kk _ (by simp) o e,ok.sqAt st.2 λo e=>kk _ (by simp) o e⟩
 item:=λi s Q E hi st hQ=>ok.item st.1 st.2 (x:=ag[i]) (by simp [hi]) λh' h1 h2=>hQ _ h' s.toks (by simp [hi]) ⟨h1,ok.sqAt st.2 λo e=>h2.extBut _ _ fj e⟩ h2
 done:=λs Q E st hE=>ok.stop hh st.1 st.2 (by simp) hE
theorem HU (ok:KdOk k) (l:Addr) (ag:Array Value) :
  Meets (Builtin.«enumerate.__new__» ⟨[.type "enumerate", .ref l],[]⟩) (λ_ R s=>k.sq s.heap l ag ∧
   R (.ok (.ret (.ref (s.heap.push { cls:=.type k.nm,data:=.fields #[.ref l,.int 0 0] }).objs.size)))
    { s with heap:=(s.heap.push { cls:=.type k.nm,data:=.fields #[.ref l,.int 0 0] }).push { cls:=.type "enumerate", data:=.fields #[.none,.bool false,.ref s.heap.objs.size,rawInt 0,.none,.none] } }) :=
 .of_wp λprog w A R s h=>by
  obtain ⟨hp,gn,dw,tk,os⟩:=s
  obtain ⟨hl,h⟩:=h
  have fR:=sub_enumerate
  have hL:k.sq (Shared.heap ⟨hp,gn,dw,tk,os⟩) l ag:=hl
  wp_walk using ok.iter hL
  refine wpAny_stack_any λframes=>wpAny_pure ?_
  split
  next c _ _ _ _ _=>cases c == type "enumerate"<;>(wp_walk using ok.iter hL;exact ⟨_,rfl,h⟩)
  next=>wp_walk using ok.iter hL;exact ⟨_,rfl,h⟩
end
end
section
variable {prog:Program}{w:World}{A:Around}{E:Value->Shared->Prop}{s:Shared}{k:Kd}
noncomputable abbrev en1 (k:Kd) (h:Heap) (l:Addr):Heap:=h.push { cls:=.type k.nm,data:=.fields #[.ref l,.int 0 0] }
noncomputable abbrev en2 (k:Kd) (h:Heap) (l:Addr):Heap:=(en1 k h l).push { cls:=.type "enumerate", data:=.fields #[.none,.bool false,.ref h.objs.size,rawInt 0,.none,.none] }
theorem Kw (ok:KdOk k){l:Addr}{ag:Array Value}{Q:Value->Shared->Prop} (hL:k.sq s.heap l ag)
  (made:∀ n g,n=s.heap.objs.size->IsEnum g (n+1) n 0 .none->k.it g n l 0->(∀ b o,s.heap.get? b=some o->g.get? b=some o)->Q (.ref (n+1)) { s with heap:=g }) :
  wpAny (model prog w) A (call (type "enumerate") ([l].map Value.ref)) Q E s:=by
 have fS:(en1 k s.heap l).objs.size=s.heap.objs.size+1:=size_push ..
 have gU:(en2 k s.heap l).get? (en1 k s.heap l).objs.size=some _:=get?_push_size _ rfl
 rw [fS] at gU
 refine callType_new F.called_enumerate (by decide) (F.typeCall_enumerate_1 _) (F.newCall_enumerate_1 _) (λobj=>F.args_object_init_2 obj _) F.entry_enumerate_new (HU ok l ag) ⟨hL,?_⟩
 have put:Q (.ref (s.heap.objs.size+1)) { s with heap:=en2 k s.heap l }:=made _ _ rfl gU (ok.itAt ok.new λo e=>get?_push_of_some _ e) λb o x=>get?_push_of_some _ (get?_push_of_some _ x)
 rw [← fS] at put gU
 exact ⟨⟨_,gU,rfl⟩,put⟩
end
section
variable {X:Cx}{B:BB}{a b c e:Expr}{es:List Expr}{pos:Pos}{ga gb gc:M D}{k:Kd}
noncomputable def Ite (rd:Hp->Addr->List V->Prop) (l:Addr):It :=
 ⟨λi H=>∃ xs x,rd H l xs/\xs[i]?=some x,λi H v H'=>∃ p x,H p=none/\v=.ref p/\H'=upd H p (.tup [.int i,x])/\(∀ xs,rd H l xs->xs[i]?=some x),λi H=>∃ xs,rd H l xs/\xs.length<=i⟩
theorem Ey {P:Program}{w:World}{K:PySem.W.Frag}{c7:List Expr}{x1:Nat}{tp:Pos}{rd:Hp->Addr->List V->Prop} (ok:KdOk k) (kr:KdRd K k rd){z it l:Addr} (jh:z≠it) (ji:l≠it) (mT:z≠l) :
  Turn P w K (.Tuple c7 x1 tp) (Ite rd l) [z,it] z (λi h=>(∃ old,IsEnum h z it i old)/\k.it h it l i) where
 mem:=by simp
 obj:=λi h st b hb=>by
  obtain ⟨⟨old,a1⟩,a2⟩:=st
  rw [mem_cons,mem_singleton] at hb
  rcases hb with rfl | rfl
  ·exact ⟨_,a1,λv q=>by cases (show Data.fields _=Data.cell v from q)⟩
  ·exact ok.itObj a2
 keep:=λi h h' st kk=>by
  obtain ⟨⟨old,a1⟩,a2⟩:=st
  exact ⟨⟨old,kk _ (by simp) _ a1⟩,ok.itAt a2 λo e=>kk _ (by simp) o e⟩
 item:=by
  intro X hP hw hK hc i U s Y H E I hf st hg
  subst hP hw
  obtain ⟨⟨old,a1⟩,a2⟩:=st
  obtain ⟨xs,x,g1,g3⟩:=hg
  obtain ⟨ac,r1,t1⟩:=kr.of hK I g1
  obtain ⟨u1,e1,e2⟩:=r1.get g3
  have aR:i < ac.toArray.size:=by
   have:=(List.getElem?_eq_some_iff.mp e1).1
   simpa using this
  have D:=drawsK ok (prog:=X.prog) (w:=X.w) (A:=X.A.in1) (I.ok.hd hc) it l ji ac.toArray
  refine wpAny_pyNext_enum_itemD D a1 ⟨a2,t1⟩ aR jh (by simp [jh,mT]) λy h' tk b0 b1 b2 b3 b4 b5=>?_
  have hy:y=u1:=by
   have eF:ac.toArray[i]?=some u1:=by simpa using e1
   have kI:ac.toArray[i]?=some y:=b0
   rw [eF] at kI;cases kI;rfl
  subst hy
  refine ⟨.ref s.heap.objs.size,rfl,wpAny_letOwnedTupleGo_enum b1 λh2 c1 c2=>?_⟩
  have kJ:z≠s.heap.objs.size:=ne_of_lt (lt_size a1)
  have mU:it≠s.heap.objs.size:=ne_of_lt (ok.itLt a2)
  have kk:∀ b u,b∉[z,it]->s.heap.get? b=some u->h2.get? b=some u:=λb u hb e=>by
   simp only [mem_cons,List.not_mem_nil,or_false,not_or] at hb
   exact c2.extBut _ _ hb.1 (b5 b u hb.1 hb.2 e)
  have pT:=c2.extBut _ _ (Ne.symm kJ) b3
  have I1:Inv X U Y (upd H s.heap.objs.size (.tup [.int i,x])) { s with heap:=h2,toks:=tk+1 }:=Il (t':=tk+1) I hf kk (le_refl _) ⟨by show 2<=sizeLine;rw [sizeLine_eq];decide,[.int i tk,y],.cons ⟨_,rfl⟩ (.cons e2 .nil),⟨_,pT,rfl,_,rfl⟩⟩
  have fr:=I.hok.fresh (le_refl s.heap.objs.size)
  refine ⟨.ref s.heap.objs.size,_,I1,rfl,⟨s.heap.objs.size,x,fr,rfl,rfl,λzs hz=>by rw [kr.inj hK I hz g1];exact g3⟩,⟨⟨y,c1⟩,ok.itAt b2.1 λo e=>c2.extBut _ _ jh.symm e⟩,λb hb=>?_⟩
  have mV:=(hf b hb).1
  have nb:b≠s.heap.objs.size:=by
   rw [mem_cons,mem_singleton] at hb
   rcases hb with rfl | rfl
   ·exact kJ
   ·exact mU
  rw [pV nb];exact mV
 done:=by
  intro X hP hw hK hc i U s Y H E I hf st hg
  subst hP hw
  obtain ⟨⟨old,a1⟩,a2⟩:=st
  obtain ⟨xs,g1,g3⟩:=hg
  obtain ⟨ac,r1,t1⟩:=kr.of hK I g1
  have cN:=r1.length
  have hT:s.TypeIs (.ref z) "enumerate":=⟨_,a1,rfl⟩
  have hx:ac.toArray[i]?=none:=by simp;omega
  unfold pyNext
  refine wpAny_bind (wpAny_attempt (wpAny_callSpecial?_slot (name:=ofString "__next__") hT F.slot_enumerate_next (wpAny_call_entry F.slot_enumerate_next hT F.entry_enumerate_next (wpAny_bind (wpAny_of_eq (a:=(Value.ref z,[])) rfl (wpAny_bind (wpAny_field (i:=2) a1 rfl (x:=.ref it) rfl ?_)))) (F.args_enumerate_next_1 _))))
  refine wpAny_bind (ok.stop (I.ok.hd hc) a2 t1 hx λh' x dY dX=>?_)
  obtain ⟨o,ho,mW⟩:=dX
  refine wpAny_bind (wpAny_isInstance (T := "StopIteration") (b:=true) ⟨o,ho,mW⟩ isSubtype_stop ?_)
  refine wpAny_pure ⟨rfl,E2 (t':=s.toks) I hf λb u hb e=>?_⟩
  simp only [mem_cons,List.not_mem_nil,or_false,not_or] at hb
  exact dY b u hb.2 e
 self:=λ_ _ _ _ _ st h=>by obtain ⟨⟨old,a1⟩,_⟩:=st;exact wpAny_pyIter_enum a1 h
noncomputable def iEnum (K:PySem.W.Frag) (ta:TA):TI:=λY H R=>ta Y H λvs H1=>(∃ l xs,vs=[.ref l]/\SqL K H1 l xs/\R (Ite (λH a xs=>SqL K H a xs) l) H1)\/(∃ l xs,vs=[.ref l]/\SqT K H1 l xs/\R (Ite (λH a xs=>SqT K H a xs) l) H1)
theorem BC {rd:Hp->Addr->List V->Prop} (ok:KdOk k) (kr:KdRd X.K k rd){c7:List Expr}{x1:Nat}{tp:Pos}{U:List (Addr×Obj)}{Y:L2.St}{H:Hp}{s:Shared}{R:It->Hp->Prop}{l:Addr}{xs:List V} (I:Inv X U Y H s) (h1:rd H l xs) (q:R (Ite rd l) H) :
  wpAny (model X.prog X.w) X.A (call (.type "enumerate") [.ref l]) (λv s1=>wpAny (model X.prog X.w) X.A (pyIter v) (PIE X U Y (.Tuple c7 x1 tp) R) X.xe s1) X.xe s:=by
 obtain ⟨ac,r1,t1⟩:=kr.of rfl I h1
 refine Kw ok t1 λn h' hn a1 a4 a6=>wpAny_pyIter_enum a1 ?_
 subst hn
 have I1:Inv X U Y H { s with heap:=h' }:=I.kept (t':=s.toks) a6
 have lt:=ok.sqLt t1
 refine ⟨s.heap.objs.size+1,[s.heap.objs.size+1,s.heap.objs.size],_,_,H,rfl,I1,Ey ok kr (Nat.succ_ne_self _) (ne_of_lt lt) (ne_of_gt (lt_succ_of_lt lt)),⟨⟨_,a1⟩,a4⟩,λb hb=>?_,q⟩
 rw [mem_cons,mem_singleton] at hb
 have up:∀ n,FpOk X U H (s.heap.objs.size+n):=λn=>I.fpOk (Nat.le_add_right _ _) (I.hok.fresh (Nat.le_add_right _ _))
 rcases hb with rfl | rfl
 ·exact up 1
 ·exact up 0
theorem HD {c7:List Expr}{x1:Nat}{tp p:Pos}{ta:TA} (hg:Gl X "enumerate") (hm:X.mg "enumerate"=none) (ha:PA X [a] ta) (hs:starEach [a] X.env=[(false,eval a X.env)]:=by rfl) :
  PI X (.Tuple c7 x1 tp) (.Call (.Name "enumerate" p) [a] [] pos) (iEnum X.K ta):=by
 intro U s Y H R I h
 refine Call_ (rR I hg hm boot_enumerate (PyProof.Rows.callWith_type1 (thn (ha pos U s Y H _ I h) λus s1 ⟨vs,H1,I1,r1,q1⟩=>?_) hs rfl))
 rcases q1 with ⟨l1,xs,e,h1,q⟩ | ⟨l1,xs,e,h1,q⟩
 ·subst e
  obtain ⟨u1,rfl,e1⟩:=r1.one
  cases e1
  exact BC JZ (Jd _) I1 h1 q
 ·subst e
  obtain ⟨u1,rfl,e1⟩:=r1.one
  cases e1
  exact BC Gg (Dk _) I1 h1 q
noncomputable def numD:Nat->List D->List D
 | _,[]=>[]
 | n,d::ds=>.tup [.int n,d]::numD (n+1) ds
theorem tu:∀ {ds:List D}{n i:Nat}{d:D},(numD n ds)[i]?=some d->∃ x,ds[i]?=some x/\d=.tup [.int ((n+i:Nat):Int),x]
 | [],n,i,d,h=>by rw [numD] at h;simp at h
 | c::ds,n,0,d,h=>by rw [numD] at h;simp at h;exact ⟨c,rfl,h.symm⟩
 | c::ds,n,i+1,d,h=>by
  rw [numD] at h
  obtain ⟨x,e1,e2⟩:=tu (i:=i) (by simpa using h)
  refine ⟨x,by simpa using e1,?_⟩
  rw [e2,show n+1+i=n+(i+1) from by omega]
theorem xJ:∀ (ds:List D) (n:Nat),(numD n ds).length=ds.length
 | [],n=>by rw [numD]
 | c::ds,n=>by rw [numD,length_cons,length_cons,xJ ds]
noncomputable def enumI (ds:List D):Option (List D):=match ds with
 | [.lst xs]=>some (numD 0 xs)
 | [.tup xs]=>some (numD 0 xs)
 | _=>none
theorem Bt {K:PySem.W.Frag}{I:Hp}{rd:Hp->Addr->List V->Prop}{l:Addr}{xs:List V}{ds:List D} (mono:∀ {H a xs},Same I H->rd I a xs->rd H a xs) (h1:rd I l xs) (i1:IsA K I ds xs):Yields K I (numD 0 ds) (Ite rd l):=λi H s=>by
 refine ⟨λd hd=>?_,λhi=>⟨xs,mono s h1,?_⟩⟩
 ·obtain ⟨y,e1,rfl⟩:=tu hd
  obtain ⟨x,f1,f2⟩:=i1.get e1
  refine ⟨⟨xs,x,mono s h1,f1⟩,λv H2 hy=>?_⟩
  obtain ⟨p,x',g1,g2,g3,g4⟩:=hy
  have k1:=g4 xs (mono s h1)
  rw [f1] at k1;cases k1
  refine .inr ⟨p,_,[.int i,x],rfl,g2,g1,g3,IsA.cons ?_ (IsA.cons f2 IsA.nil)⟩
  rw [zero_add]
  exact Is.int _
 ·rw [xJ,i1.length] at hi
  exact hi
theorem yH {c7:List Expr}{x1:Nat}{tp p:Pos}{t:M (List D)} (hg:Gl X "enumerate") (hm:X.mg "enumerate"=none) (ha:AD X B [a] t) (hs:starEach [a] X.env=[(false,eval a X.env)]:=by rfl) :
  ITD X B (.Tuple c7 x1 tp) (.Call (.Name "enumerate" p) [a] [] pos) (fn1 enumI t):=PI.imp (HD hg hm ha hs) λY H R q=>by
 obtain ⟨G,I,Γ,ds,aa,r,e1,k⟩:=q
 obtain ⟨d,Z,e2,e3⟩:=pO e1
 obtain ⟨e4,rfl⟩:=qe e3
 refine ⟨G,I,Γ,d,_,r,e2,λvs H1 I1 r1 g1 hd=>?_⟩
 unfold enumI at e4
 split at e4
 ·cases e4
  obtain ⟨x,rfl,hx⟩:=hd.one
  obtain ⟨l1,xs,rfl,h1,h2⟩:=qi hx
  exact .inl ⟨l1,xs,rfl,(Same.rdK r1.iH h1).sq,k _ _ _ r1 g1 (Bt (λs h=>by rcases h with h | h;exact .inl (Same.rd s h);exact .inr h) h1.sq h2)⟩
 ·cases e4
  obtain ⟨x,rfl,hx⟩:=hd.one
  obtain ⟨l1,xs,rfl,h1,h2⟩:=qa hx
  exact .inr ⟨l1,xs,rfl,Same.sqT r1.iH h1,k _ _ _ r1 g1 (Bt (λs h=>Same.sqT s h) h1 h2)⟩
 ·cases e4
noncomputable def blsD:List D->Option (List Bool)
 | []=>some []
 | .bl b::ds=>match blsD ds with
  | some bs=>some (b::bs)
  | none=>none
 | _=>none
theorem wK:∀ {ds:List D}{bs:List Bool},blsD ds=some bs->ds=bs.map .bl
 | [],bs,h=>by rw [blsD] at h;cases h;rfl
 | .bl b::ds,bs,h=>by
  rw [blsD] at h
  cases e:blsD ds with
  | none=>rw [e] at h;cases h
  | some cs=>rw [e] at h;cases h;rw [wK e];rfl
 | .non::_,_,h=>by cases h
 | .int _::_,_,h=>by cases h
 | .str _::_,_,h=>by cases h
 | .tup _::_,_,h=>by cases h
 | .lst _::_,_,h=>by cases h
theorem xf {K:PySem.W.Frag}{I:Hp}:∀ {bs:List Bool}{xs:List V},IsA K I (bs.map .bl) xs->xs=bs.map .bl
 | [],xs,h=>h.nil_inv
 | b::bs,xs,h=>by
  obtain ⟨x,r,rfl,h1,h2⟩:=h.cons_inv
  rw [qw h1,xf h2];rfl
theorem xp:∀ {bs:List Bool}{us:List Value},Vals (bs.map .bl) us->us=bs.map .bool
 | [],us,h=>by cases h;rfl
 | b::bs,us,h=>by
  cases h with
  | cons r t=>rw [xp t];cases r;rfl
theorem KH (bs:List Bool):(range bs.length).all (λi=>bs.getD i true)=bs.all id:=by
 induction bs with
 | nil=>rfl
 | cons b bs ih =>
  rw [length_cons,List.range_succ_eq_map,all_cons,all_map,all_cons]
  congr 1
theorem Jh (bs:List Bool):(range bs.length).any (λi=>bs.getD i true)=bs.any id:=by
 induction bs with
 | nil=>rfl
 | cons b bs ih =>
  rw [length_cons,List.range_succ_eq_map,any_cons,List.any_map,any_cons]
  congr 1
theorem KQ (hc:X.calm=true):CallR X (.builtin "all") (λxs H Q=>∃ (p:Addr) (bs:List Bool),xs=[.ref p]/\SqL X.K H p (bs.map .bl)/\Q (.bl (bs.all id)) H):=by
 intro U s Y H xs us Q I r h
 obtain ⟨p,bs,rfl,hq,q⟩:=h
 obtain ⟨u,rfl,ru⟩:=vals1 r
 cases ru
 obtain ⟨ac,rv,t,hz⟩:=I.list hq
 have:=xp rv
 subst this
 have lt:p < s.heap.objs.size:=by obtain ⟨_,e,_⟩:=t.isList;exact lt_size e
 refine call_all_walk (wpAny_pyIter_list t.isList ?_)
 refine ⟨s.heap.objs.size,_,_,_,_,_,λi=>bs.getD i true,rfl,Walks.list (A:=X.A.in1) (I.ok.hd hc) s.heap.objs.size p (ne_of_lt lt) _,⟨⟨_,get?_push_size _ rfl,rfl,rfl⟩,t.isList.push _⟩,?_,?_⟩
 ·intro i v s' Q' E' hv hQ
  have dZ:(bs.map Value.bool)[i]?=some v:=by simpa using hv
  obtain ⟨b,e1,rfl⟩:=getMap dZ
  have hQ:Q' (bs.getD i true) s':=hQ
  rw [getD_eq_getElem?_getD,e1] at hQ
  exact wpAny_truthy_bool hQ
 ·intro h' tk kk
  have e1:(bs.map Value.bool).toArray.size=bs.length:=by simp
  rw [e1,KH]
  refine ⟨.bl (bs.all id),H,I.kept λb o e=>kk b o (by simp only [mem_singleton];exact ne_of_lt (lt_size e)) (get?_push_of_some _ e),rfl,q⟩
theorem Gu (hc:X.calm=true):CallR X (.builtin "any") (λxs H Q=>∃ (p:Addr) (bs:List Bool),xs=[.ref p]/\SqL X.K H p (bs.map .bl)/\Q (.bl (bs.any id)) H):=by
 intro U s Y H xs us Q I r h
 obtain ⟨p,bs,rfl,hq,q⟩:=h
 obtain ⟨u,rfl,ru⟩:=vals1 r
 cases ru
 obtain ⟨ac,rv,t,hz⟩:=I.list hq
 have:=xp rv
 subst this
 have lt:p < s.heap.objs.size:=by obtain ⟨_,e,_⟩:=t.isList;exact lt_size e
 refine call_any_walk (wpAny_pyIter_list t.isList ?_)
 refine ⟨s.heap.objs.size,_,_,_,_,_,λi=>bs.getD i true,rfl,Walks.list (A:=X.A.in1) (I.ok.hd hc) s.heap.objs.size p (ne_of_lt lt) _,⟨⟨_,get?_push_size _ rfl,rfl,rfl⟩,t.isList.push _⟩,?_,?_⟩
 ·intro i v s' Q' E' hv hQ
  have dZ:(bs.map Value.bool)[i]?=some v:=by simpa using hv
  obtain ⟨b,e1,rfl⟩:=getMap dZ
  have hQ:Q' (bs.getD i true) s':=hQ
  rw [getD_eq_getElem?_getD,e1] at hQ
  exact wpAny_truthy_bool hQ
 ·intro h' tk kk
  have e1:(bs.map Value.bool).toArray.size=bs.length:=by simp
  rw [e1,Jh]
  refine ⟨.bl (bs.any id),H,I.kept λb o e=>kk b o (by simp only [mem_singleton];exact ne_of_lt (lt_size e)) (get?_push_of_some _ e),rfl,q⟩
noncomputable def allF (ds:List D):Option D:=match ds with
 | [.lst xs]=>match blsD xs with
  | some bs=>some (.bl (bs.all id))
  | none=>none
 | _=>none
noncomputable def anyF (ds:List D):Option D:=match ds with
 | [.lst xs]=>match blsD xs with
  | some bs=>some (.bl (bs.any id))
  | none=>none
 | _=>none
theorem wk {p:Pos}{t:M (List D)} (hc:X.calm=true) (hg:Gl X "all") (hm:X.mg "all"=none) (ha:AD X B [e] t) (he:starEach [e] X.env=(false,eval e X.env)::starEach [] X.env:=by rfl) (aA:(backTo pos (starEach [] X.env)).any (·.1)=false:=by rfl) :
  ED X B (.Call (.Name "all" p) [e] [] pos) (fn1 allF t):=sd (KQ hc) (λds d e B G I H Y Γ xs Q r h k=>by
 unfold allF at e
 split at e
 ·split at e
  ·rename_i bs eb
   cases e
   have:=wK eb
   subst this
   obtain ⟨x,rfl,hx⟩:=h.one
   obtain ⟨q,zs,rfl,h3,h4⟩:=qi hx
   have:=xf h4
   subst this
   exact ⟨q,bs,rfl,(Same.rdK r.iH h3).sq,k.now r (Is.bl _)⟩
  ·cases e
 ·cases e) hg hm boot_all ha (by decide) (by decide) he aA
theorem wF {p:Pos}{t:M (List D)} (hc:X.calm=true) (hg:Gl X "any") (hm:X.mg "any"=none) (ha:AD X B [e] t) (he:starEach [e] X.env=(false,eval e X.env)::starEach [] X.env:=by rfl) (aA:(backTo pos (starEach [] X.env)).any (·.1)=false:=by rfl) :
  ED X B (.Call (.Name "any" p) [e] [] pos) (fn1 anyF t):=sd (Gu hc) (λds d e B G I H Y Γ xs Q r h k=>by
 unfold anyF at e
 split at e
 ·split at e
  ·rename_i bs eb
   cases e
   have:=wK eb
   subst this
   obtain ⟨x,rfl,hx⟩:=h.one
   obtain ⟨q,zs,rfl,h3,h4⟩:=qi hx
   have:=xf h4
   subst this
   exact ⟨q,bs,rfl,(Same.rdK r.iH h3).sq,k.now r (Is.bl _)⟩
  ·cases e
 ·cases e) hg hm boot_any ha (by decide) (by decide) he aA
noncomputable def reprF (ds:List D):Option D:=match ds with
 | [.bl b]=>some (.str (if b then "True" else "False"))
 | _=>none
end
theorem CompScope.of {cB sc:Scope}{N N':List Str}{m:Nat}
  (h:decide (sc.kind=.function/\(∀ y∈sc.names,y.2≠.cell)/\(∀ y∈sc.names,y.2=.local->sc.names.lookup y.1=some .local)/\(∀ y∈sc.names,y.2=.free->cB.names.lookup y.1=some .cell\/cB.names.lookup y.1=some .free)/\N'.Nodup/\N'.length=m+N.length ∧
   (∀ p∈(N'.drop m).zip N,((relab sc cB).names.lookup p.1=none)\/(p.1=p.2/\(relab sc cB).names.lookup p.1≠some .local)))=true):CompScope cB sc N N' m:=by
 obtain ⟨h1,h2,h3,h4,h5,h6,h7⟩:=of_decide_eq_true h
 exact ⟨h1,h2,h3,h4,h5,h6,h7⟩
theorem vU {P:Program}{w:World}{K:PySem.W.Frag}{mg:Str->Option Value}{base:Heap}{k:Nat}{f:Addr}{fd:FuncData}{ps:List Str}:FnOk P w K mg base CX0 k f fd ps (spD K λ_=>none):=by
 have no:∀ vs H Q E,¬ spD K (λ_=>none) vs H Q E:=λvs H Q E h=>by
  obtain ⟨_,_,_,_,_,_,_,h,_⟩:=h
  cases h
 exact ⟨λvs H Q E h=>absurd h (no vs H Q E),λA outer s H args us vs Q E _ _ _ _ h=>absurd h (no vs H Q E)⟩
theorem Dg {K:PySem.W.Frag}{H:Hp}{a:Addr}{ns:List Int}{g:List R->Option (R×List R)} (km:RdK K H a (ns.map V.int))
  (hg:∃ rs,g [.val (.lst (ns.map D.int))]=some (.val (.bl true),rs)):spD K g [.ref a] H (λv _=>v=.bl true) λ_ _ _=>False:=by
 obtain ⟨rs,hg⟩:=hg
 have kK:∀ ns:List Int,IsA K H (ns.map D.int) (ns.map V.int):=λns=>by
  induction ns with
  | nil=>exact IsA.nil
  | cons n ns ih=>exact IsA.cons (Is.int n) ih
 refine ⟨H,H,[.val (.lst (ns.map D.int))],.val (.bl true),rs,?_,rfl,hg,λv H' I' r g' hv=>qw (K:=K) (I:=I') hv⟩
 refine ⟨Same.refl _,Same.refl _,rfl,λi r e=>?_,λi j r r' v e e' m=>?_,λi ds e=>rfl⟩
 ·match i,e with
  | 0,e=>cases e;exact ⟨_,rfl,Is.lst km (kK ns)⟩
 ·match i,e with
  | 0,e=>cases e;cases m
theorem Ek {P:Program}{w:World}{K:PySem.W.Frag}{mg mb:Str->Option Value}{CX:CXT}{k:Nat}{fa a:Addr}{fd:FuncData}{x:Str}{sp:Sp}{aq:Shared}{vs:List Value}{ns:List Int}
  (KX:K.In aq.heap) (fM:aq.heap.Ns mainGlobals mg) (hb:aq.heap.Ns builtinsNs mb) (mX:∀ x:Str,x ≠ "__name__"->mb x=bootBuiltins x) (c6:aq.heap.NoLimit) (hg:aq.gens=#[])
  (ha:aq.heap.get? a=some { cls:=.type "list", data:=.seq vs.toArray }) (hi:IntsAre vs ns) (hl:ns.length<=sizeLine) (hr:Room k callerA)
  (F:∀ base:Heap,K.In base->base.Ns mainGlobals mg->FnOk P w K mg base CX k fa fd [x] sp) (jk:∀ (s:Shared) (u:Value),BindsTo s fd ⟨[u],[]⟩ [(x,u)])
  (dS:∀ H:Hp,Only H->RdK K H a (ns.map V.int)->sp [.ref a] H (λv _=>v=.bl true) λ_ _ _=>False)
  (jl:∀ H e s',CX [] H aq (λ_ _ _=>False) e s'->False) :
  codeAny (model P w) callerA (.call (.ref fa) ⟨[.ref a],[]⟩) (λr s'=>r=.ok (.ret (.bool true))/\OldK aq.heap s'.heap/\s'.os=aq.os/\AllBare s'.gens) aq:=by
 have rv:=zq hi
 have kL:=hi.length
 -- from an abstract heap in which nothing but the script may be cR
 have iD:∀ H:Hp,Only H->RdK K H a (ns.map V.int)->HOk P w H aq.heap->(∀ b,H b≠none->b=a)->(H a≠none->K.lookup a=none) →
   codeAny (model P w) callerA (.call (.ref fa) ⟨[.ref a],[]⟩) (λr s'=>r=.ok (.ret (.bool true))/\OldK aq.heap s'.heap/\s'.os=aq.os/\AllBare s'.gens) aq:=by
  intro H hO hS hok hA hK
  have ec:∀ {b:Addr}{o:Obj},aq.heap.get? b=some o->H b=none->(hidT aq.heap H).get? b=some o:=λe n=>HP e n
  have fF:∀ {b:Addr}{o:Obj}{es:Array DictEntry}{ep:Nat},aq.heap.get? b=some o->o.data=.dict es ep->H b=none:=λ{b o es ep} e d=>by
   cases q:H b with
   | none=>rfl
   | some u =>
    have e':b=a:=hA b (by rw [q];simp)
    subst e'
    rw [ha] at e;cases e
    have d':Data.seq vs.toArray _=Data.dict es ep:=d
    cases d'
  have gW:∀ {b:Addr}{m:Str->Option Value},aq.heap.Ns b m->(hidT aq.heap H).Ns b m:=λ{b m} ⟨o,es,ep,e,d,r⟩=>⟨o,es,ep,ec e (fF e d),d,r⟩
  have kM:K.In (hidT aq.heap H):=λb o e=>ec (KX b o e) (by
   cases q:H b with
   | none=>rfl
   | some u =>
    have e':b=a:=hA b (by rw [q];simp)
    subst e'
    rw [hK (by rw [q];simp)] at e;cases e)
  have hM:Mod K mg (hidT aq.heap H):=⟨kM,gW fM,⟨mb,gW hb,mX⟩,let ⟨mc,h1,h2⟩:=c6;⟨mc,gW h1,h2⟩⟩
  have e0:Env0 P w K mg (hidT aq.heap H) callerA [] aq H:=⟨rfl,hM,λb o e=>GG e,Nat.le_of_eq (Fw _ _),trivial,λb hb=>absurd (show b∈([]:List Addr) from hb) (by simp),hok,.of_eq hg⟩
  refine codeAny_mono ((F _ kM (gW fM)).run callerA [] aq H ⟨[.ref a],[]⟩ [.ref a] [.ref a] _ _ hr e0 (jk aq (.ref a)) (.cons rfl .nil) (dS H hO hS)) λr s' h=>?_
  cases r with
  | error e=>exact (jl H e s' h).elim
  | ok fl =>
   cases fl with
   | next=>exact elim h
   | brk=>exact elim h
   | cont=>exact elim h
   | ret u =>
    obtain ⟨v,H',os,bare,un,kN,r',q⟩:=h
    have q':v=.bl true:=q
    subst q'
    obtain rfl:u=Value.bool true:=r'
    refine ⟨rfl,OldK.of_keep λb o e=>?_,os,bare⟩
    cases q:H b with
    | none=>exact un.keep b o e q (by intro z;exact absurd (show b∈([]:List Addr) from z) (by simp)) (by simp)
    | some u =>
     rcases hO b with z | ⟨ob,xs,z⟩
     ·rw [q] at z;cases z
     ·have z2:=un.frzs b ob _ z
      obtain ⟨e1,_⟩:=hok b _ z
      obtain ⟨e2,_⟩:=kN b _ z2
      rw [e] at e1;cases e1
      exact e2
 cases hk:K.lookup a with
 | some o =>
  -- the script is one of the module's own objects
  have e:=KX a o hk
  rw [ha] at e
  cases e
  refine iD (λ_=>none) (λ_=>.inl rfl) (.inr ⟨vs,_,hk,rv,by rw [kL];exact hl⟩) (λb u z=>by have z':(none:Option HO)=some u:=z;cases z') (λb z=>absurd rfl z) λz=>absurd rfl z
 | none =>
  refine iD (λb=>if b=a then some (.frz { cls:=.type "list", data:=.seq vs.toArray } (.lst (ns.map V.int))) else none) (λb=>?_) (.inl (.inr ⟨{ cls:=.type "list", data:=.seq vs.toArray },if_pos rfl⟩)) (λb u z=>?_) (λb z=>?_) λ_=>hk
  ·by_cases hb:b=a
   ·exact .inr ⟨_,_,if_pos hb⟩
   ·exact .inl (if_neg hb)
  ·by_cases hb:b=a
   ·have z':=(if_pos hb).symm.trans z
    cases z'
    subst hb
    exact ⟨ha,by rw [length_map];exact hl,vs,_,rv,ha⟩
   ·have z':=(if_neg hb).symm.trans z
    cases z'
  ·by_cases hb:b=a
   ·exact hb
   ·exact absurd (if_neg hb) z
theorem Ii {l:PySem.W.OpenLaw}{n k:Nat}{q:Program}{cA:List Str}{XP:(Str->Option Value)->Heap->Prop}{YP:World->Heap->Prop}{d:DefRec}{K:Params->PySem.W.Frag}{CX:World->CXT}{sp:World->Sp}{x:Str}
  (hn:l.most=some n) (jm:n<=sizeLine) (fI:d.params.defaults=[]) (hr:Room k callerA)
  (hY:∀ (w:World) (h:Heap),YP w h->(K w.params).In h)
  (F:∀ (w:World) (mg:Str->Option Value) (fa:Addr) (h:Heap),(K w.params).In h->h.Ns mainGlobals mg->mg d.name=some (.ref fa) →
   ∃ fd:FuncData,(∀ (s:Shared) (u:Value),BindsTo s fd ⟨[u],[]⟩ [(x,u)]) ∧
    ∀ base:Heap,(K w.params).In base->base.Ns mainGlobals mg->FnOk l.prog w (K w.params) mg base (CX w) k fa fd [x] (sp w))
  (dS:∀ (w:World) (H:Hp) (a:Addr) (ns:List Int),ns.length<=n->Only H->RdK (K w.params) H a (ns.map V.int)->sp w [.ref a] H (λv _=>v=.bl true) λ_ _ _=>False)
  (jl:∀ (w:World) (H:Hp) (s:Shared) (e:Value) (s':Shared),CX w [] H s (λ_ _ _=>False) e s'->False) :
  PySem.W.WalkO q cA XP YP l.row.toRowW d [] (λf vs=>PySem.call f vs):=by
 refine Att.JN hn fI λw s₀ aq mg mb fa o pm cd bC a vs ns G pM ho hd bW fJ fK eD aR hg=>?_
 have KX:=hY w _ pM
 obtain ⟨fd,hb,hF⟩:=F w mg fa _ KX G.T.g fJ
 exact Ek KX G.T.g G.T.b G.T.builtins G.T.nolimit hg fK eD (le_trans aR jm) hr hF hb (λH hO hS=>dS w H a ns aR hO hS) λH e s'=>jl w H aq e s'
noncomputable def un1 {α:Type} (F:D->Option α) (g:M D):M α:=bnd g λd=>lft (F d)
inductive Ki where
 | iT | sT | bT | tT | lT
noncomputable def Ki.nm:Ki->String
 | .iT => "int"
 | .sT => "str"
 | .bT => "bool"
 | .tT => "tuple"
 | .lT => "list"
noncomputable def isiB:Ki->D->Bool
 | .iT,.int _=>true
 | .iT,.bl _=>true
 | .sT,.str _=>true
 | .bT,.bl _=>true
 | .tT,.tup _=>true
 | .lT,.lst _=>true
 | _,_=>false
noncomputable def isiF (k:Ki) (d:D):Option D:=some (.bl (isiB k d))
section
variable {X:Cx}{B:BB}{e:Expr}{ga:M D}{pos:Pos}
theorem Kv {k:Ki}{h:Heap}{a:Addr}{ac:Array Value}{prog:Program}{w:World}{A:Around}{E:Value->Shared->Prop}{s:Shared}{Q:Value->Shared->Prop}{ds:List D} (hl:s.heap.IsList a ac) (q:∀ t,Q (.bool (isiB k (.lst ds))) { s with toks:=t }):wpAny (model prog w) A (call (.builtin "isinstance") [.ref a,.type k.nm]) Q E s:=by
 cases k
 ·exact PySem.IsiPair.isList_int hl (λ_ _ z=>z) (q _)
 ·exact PySem.IsiPair.isList_str hl (λ_ _ z=>z) (q _)
 ·exact PySem.IsiPair.isList_bool hl (λ_ _ z=>z) (q _)
 ·exact PySem.IsiPair.isList_tuple hl (λ_ _ z=>z) (q _)
 ·exact PySem.IsiPair.isList_list hl (λ_ _ z=>z) (q _)
theorem K' {k:Ki}{h:Heap}{a:Addr}{ac:Array Value}{prog:Program}{w:World}{A:Around}{E:Value->Shared->Prop}{s:Shared}{Q:Value->Shared->Prop}{ds:List D} (hl:s.heap.IsTuple a ac) (q:∀ t,Q (.bool (isiB k (.tup ds))) { s with toks:=t }):wpAny (model prog w) A (call (.builtin "isinstance") [.ref a,.type k.nm]) Q E s:=by
 cases k
 ·exact PySem.IsiPair.isTuple_int hl (λ_ _ z=>z) (q _)
 ·exact PySem.IsiPair.isTuple_str hl (λ_ _ z=>z) (q _)
 ·exact PySem.IsiPair.isTuple_bool hl (λ_ _ z=>z) (q _)
 ·exact PySem.IsiPair.isTuple_tuple hl (λ_ _ z=>z) (q _)
 ·exact PySem.IsiPair.isTuple_list hl (λ_ _ z=>z) (q _)
theorem KF (k:Ki):CallR X (.builtin "isinstance") (λxs H Q=>∃ d x,xs=[x,.ty k.nm]/\Is X.K H d x/\Q (.bl (isiB k d)) H):=by
 intro U s Y H xs us Q I r h
 obtain ⟨d,x,rfl,hd,q⟩:=h
 cases r with
 | cons rx r =>
  cases r with
  | cons rt r =>
   cases r
   cases rt
   have fin:∀ t,EP X U Y Q (.bool (isiB k d)) { s with toks:=t }:=λt=>⟨.bl _,H,I.tok _,rfl,q⟩
   cases d with
   | non =>
    cases (show x=.non from by rw [Is] at hd;exact hd)
    cases rx
    cases k
    ·exact PySem.IsiPair.NoneType_int (fin _)
    ·exact PySem.IsiPair.NoneType_str (fin _)
    ·exact PySem.IsiPair.NoneType_bool (fin _)
    ·exact PySem.IsiPair.NoneType_tuple (fin _)
    ·exact PySem.IsiPair.NoneType_list (fin _)
   | bl b =>
    cases qw hd
    cases rx
    cases k
    ·exact bool_int (fin _)
    ·exact bool_str (fin _)
    ·exact bool_bool (fin _)
    ·exact PySem.IsiPair.bool_tuple (fin _)
    ·exact bool_list (fin _)
   | int i =>
    cases pY hd
    obtain ⟨t,rfl⟩:=rx
    cases k
    ·exact PySem.IsiPair.int_int (fin _)
    ·exact int_str (fin _)
    ·exact int_bool (fin _)
    ·exact int_tuple (fin _)
    ·exact int_list (fin _)
   | str y =>
    cases (show x=.str y from by rw [Is] at hd;exact hd)
    obtain ⟨t,rfl⟩:=rx
    cases k
    ·exact str_int (fin _)
    ·exact str_str (fin _)
    ·exact str_bool (fin _)
    ·exact str_tuple (fin _)
    ·exact str_list (fin _)
   | tup ds =>
    obtain ⟨a,xs,rfl,h1,h2⟩:=qa hd
    cases rx
    obtain ⟨ac,_,t,_⟩:=I.tuple h1
    exact K' (h:=s.heap) t fin
   | lst ds =>
    obtain ⟨a,xs,rfl,h1,h2⟩:=qi hd
    cases rx
    obtain ⟨ac,_,t,_⟩:=I.list h1.sq
    exact Kv (h:=s.heap) t.isList fin
theorem JC {k:Ki}:∀ Y H Q,tD X.K B (un1 (isiF k) ga) Y H Q->tCB (λxs H Q=>∃ d x,xs=[x,.ty k.nm]/\Is X.K H d x/\Q (.bl (isiB k d)) H) (tCons (tD X.K B ga) (tCons (tC (.ty k.nm)) tNil)) Y H Q:=λY H Q q=>by
 obtain ⟨G,I,Γ,d,aa,r,e1,k⟩:=q
 obtain ⟨d1,Z,e2,e3⟩:=pO e1
 obtain ⟨e4,rfl⟩:=qe e3
 cases e4
 exact ⟨G,I,Γ,d1,_,r,e2,λv H1 I1 r1 g1 h1=>⟨d1,v,rfl,h1.mono r1.iH,k _ _ _ r1 g1 (Is.bl _)⟩⟩
theorem y4 {k:Ki}{t:Str}{p p2:Pos} (hv:bootBuiltins t=some (.type k.nm)) (hn:t ≠ "__name__") (hd:(t == ("__debug__":Str))=false) (hg:Gl X "isinstance") (hm:X.mg "isinstance"=none) (eJ:Gl X t) (dh:X.mg t=none) (ha:ED X B e ga)
  (he:starEach [e,.Name t p2] X.env=(false,eval e X.env)::starEach [.Name t p2] X.env:=by rfl) (dC:starEach [.Name t p2] X.env=(false,eval (.Name t p2) X.env)::starEach [] X.env:=by rfl) (aA:(backTo pos (starEach [.Name t p2] X.env)).any (·.1)=false:=by rfl) :
  ED X B (.Call (.Name "isinstance" p) [e,.Name t p2] [] pos) (un1 (isiF k) ga) :=
 PE.imp (yn (KF k) hg hm boot_isinstance (sx ha (sx (Fk (v:=.ty k.nm) eJ dh hv rfl hn hd) xI dC) he) (by decide) (by decide) he aA) JC
theorem Kk {p p2:Pos} (hg:Gl X "isinstance") (hm:X.mg "isinstance"=none) (eJ:Gl X "int") (dh:X.mg "int"=none) (ha:ED X B e ga)
  (he:starEach [e,.Name "int" p2] X.env=(false,eval e X.env)::starEach [.Name "int" p2] X.env:=by rfl) (dC:starEach [.Name "int" p2] X.env=(false,eval (.Name "int" p2) X.env)::starEach [] X.env:=by rfl) (aA:(backTo pos (starEach [.Name "int" p2] X.env)).any (·.1)=false:=by rfl) :
  ED X B (.Call (.Name "isinstance" p) [e,.Name "int" p2] [] pos) (un1 (isiF .iT) ga):=y4 (k:=.iT) boot_int (by decide) (by decide) hg hm eJ dh ha he dC aA
theorem Dr {p p2:Pos} (hg:Gl X "isinstance") (hm:X.mg "isinstance"=none) (eJ:Gl X "bool") (dh:X.mg "bool"=none) (ha:ED X B e ga)
  (he:starEach [e,.Name "bool" p2] X.env=(false,eval e X.env)::starEach [.Name "bool" p2] X.env:=by rfl) (dC:starEach [.Name "bool" p2] X.env=(false,eval (.Name "bool" p2) X.env)::starEach [] X.env:=by rfl) (aA:(backTo pos (starEach [.Name "bool" p2] X.env)).any (·.1)=false:=by rfl) :
  ED X B (.Call (.Name "isinstance" p) [e,.Name "bool" p2] [] pos) (un1 (isiF .bT) ga):=y4 (k:=.bT) boot_bool (by decide) (by decide) hg hm eJ dh ha he dC aA
theorem tw {p p2:Pos} (hg:Gl X "isinstance") (hm:X.mg "isinstance"=none) (eJ:Gl X "tuple") (dh:X.mg "tuple"=none) (ha:ED X B e ga)
  (he:starEach [e,.Name "tuple" p2] X.env=(false,eval e X.env)::starEach [.Name "tuple" p2] X.env:=by rfl) (dC:starEach [.Name "tuple" p2] X.env=(false,eval (.Name "tuple" p2) X.env)::starEach [] X.env:=by rfl) (aA:(backTo pos (starEach [.Name "tuple" p2] X.env)).any (·.1)=false:=by rfl) :
  ED X B (.Call (.Name "isinstance" p) [e,.Name "tuple" p2] [] pos) (un1 (isiF .tT) ga):=y4 (k:=.tT) boot_tuple (by decide) (by decide) hg hm eJ dh ha he dC aA
noncomputable def negI (d:D):Option D:=match d with
 | .int i=>some (.int (-i))
 | _=>none
end
end DL
namespace PySem.SeqAt
def RcLtAt (A:Around) (s:Shared) (y x:Value) (b:Bool):Prop :=
 ∀ (prog:Program) (w:World) (E:Value->Shared->Prop) (Q:Value->Shared->Prop),Q (.bool b) s->wpAny (model prog w) A (richCompare .Lt y x) Q E s
noncomputable def ltFrom (e lt:Nat->Bool) (d:Bool):List Nat->Bool
 | []=>d
 | i::r=>if e i then ltFrom e lt d r else lt i
theorem ET (u v:Addr) (us vs:Array Value) (p q:Nat) (du dv:Option Addr) (ku kv:Array (Option Value)) (e lt:Nat->Bool) :
  Meets (Builtin.«tuple.__lt__» ⟨[.ref u,.ref v],[]⟩) (λA bu s=>(s.heap.get? u=some ⟨.type "tuple", du,.seq us p,ku⟩/\s.heap.get? v=some ⟨.type "tuple", dv,.seq vs q,kv⟩) ∧
    (∀ j (h1:j < us.size) (h2:j < vs.size),EqAt A.in1 s us[j] vs[j] (e j)/\(e j=false->RcLtAt A.in1 s us[j] vs[j] (lt j)))/\bu (.ok (.ret (.bool (ltFrom e lt (decide (us.size < vs.size)) (range (min us.size vs.size)))))) s) :=
 .of_wp λprog w A bu s given=>by
  obtain ⟨hp,gn,dw,tk,os⟩:=s
  obtain ⟨⟨gu,gv⟩,fT,kO⟩:=given
  obtain ⟨fU,hs⟩:∃ fU:Nat->Prop,fU=λi=>bu (.ok (.ret (.bool (ltFrom e lt (decide (us.size < vs.size)) ((range (min us.size vs.size)).drop i))))) ⟨hp,gn,dw,tk,os⟩:=⟨_,rfl⟩
  have oP:=AutoSeq1.sub_tuple_tuple
  have len:(us.toList.zip vs.toList).length=min us.size vs.size:=by rw [List.length_zip];rfl
  wp_walk using AutoSeq1.wpAny_loadPart' gu,AutoSeq1.wpAny_loadPart' gv,wpAny_forIn_list _ (λleft eE now=>eE.1=none/\now=⟨hp,gn,dw,tk,os⟩/\∃ i,left=(us.toList.zip vs.toList).drop i/\fU i) _
  case turn =>
   rintro ⟨y,x⟩ left eE now ⟨aT,rfl,i,bi,say⟩
   have here:i < min us.size vs.size:=by
    rw [← len]
    exact Nat.lt_of_not_le λno=>by rw [List.drop_eq_nil_of_le no] at bi;exact List.cons_ne_nil _ _ bi
   have k1:i < us.size:=by omega
   have k2:i < vs.size:=by omega
   have cut:=drop_eq_getElem_cons (l:=us.toList.zip vs.toList) (i:=i) (len▸here)
   rw [← bi,List.getElem_zip] at cut
   obtain ⟨yx,tail⟩:=List.cons.inj cut
   obtain ⟨rfl,rfl⟩:=Prod.mk.inj yx
   rw [hs] at say
   have iE:=drop_eq_getElem_cons (l:=range (min us.size vs.size)) (i:=i) (by simpa using here)
   rw [List.getElem_range] at iE
   rw [iE,ltFrom] at say
   have two:=fT i k1 k2
   refine wpAny_bind (two.1 prog w _ _ ?_)
   cases like:e i with
   | true =>
    rw [like,if_pos rfl] at say
    wp_walk
    exact ⟨rfl,rfl,i+1,tail,by rw [hs];exact say⟩
   | false =>
    rw [like,if_neg Bool.false_ne_true] at say
    refine wpAny_bind (wpAny_rule (wpAny_bind (two.2 like prog w _ _ ?_)))
    wp_walk
    exact ⟨_,rfl,say⟩
  case fin =>
   rintro ⟨eE,_⟩ now ⟨aT,rfl,i,bi,say⟩
   cases aT
   have eX:min us.size vs.size<=i:=by
    rw [← len]
    exact List.drop_eq_nil_iff.mp bi.symm
   rw [hs] at say
   rw [List.drop_eq_nil_of_le (by simpa using eX),ltFrom] at say
   wp_walk
   exact ⟨_,rfl,by simpa [Builtin.Tuple.tupleCompareSizes] using say⟩
  case h=>exact ⟨rfl,rfl,0,rfl,by rw [hs];exact kO⟩
theorem RcLtAt.tuples {A:Around}{s:Shared}{u v:Addr}{us vs:Array Value}{e lt:Nat->Bool} (hu:s.heap.IsTuple u us) (hv:s.heap.IsTuple v vs) (room:A.units < cLine)
  (fT:∀ j (h1:j < us.size) (h2:j < vs.size),EqAt A.in1 s us[j] vs[j] (e j)/\(e j=false->RcLtAt A.in1 s us[j] vs[j] (lt j))):RcLtAt A s (.ref u) (.ref v) (ltFrom e lt (decide (us.size < vs.size)) (range (min us.size vs.size))):=by
 obtain ⟨⟨_,du,_,ku⟩,gu,rfl,p,rfl⟩:=hu
 obtain ⟨⟨_,dv,_,kv⟩,gv,rfl,q,rfl⟩:=hv
 exact λprog w E Q h=>richCompare_meets_room (op:=.Lt) ⟨_,gu,rfl⟩ ⟨_,gv,rfl⟩ F.slot_tuple_lt F.entry_tuple_lt (F.args_tuple_lt_2 _ _) (ET u v us vs p q du dv ku kv e lt) ⟨⟨gu,gv⟩,fT,Value.noConfusion,h⟩ room
theorem RcLtAt.int_int {A:Around}{s:Shared} (a:Int) (t:Tok) (b:Int) (u:Tok):RcLtAt A s (.int a t) (.int b u) (decide (a < b)):=λprog w E Q h=>PyProof.Rows.lt_int h
end PySem.SeqAt
namespace DL
open PySem PySem.Spec PyProof.Rows L2
section
variable {X:Cx}{B:BB}{a b c e:Expr}{es:List Expr}{pos:Pos}
theorem zO:∀ {xs:List V}{us:List Value},xs.length=us.length->(∀ (i:Nat) x u,xs[i]?=some x->us[i]?=some u->RelV x u)->Vals xs us
 | [],[],_,_=>.nil
 | [],_::_,h,_=>by cases h
 | _::_,[],h,_=>by cases h
 | x::xs,u::us,h,k=>.cons (k 0 x u rfl rfl) (zO (Nat.succ.inj h) λi y v e f=>k (i+1) y v e f)
end
section
variable {X:Cx}{B:BB}{a b c e:Expr}{es:List Expr}{pos:Pos}{kr:Nat}
open PySem.SeqAt in
end
end DL
namespace DL
open PySem PySem.W PyProof.Rows
structure Ord (lt:Nat->Nat->Bool):Prop where
 as:∀ a b,lt a b=true->lt b a=false
 tr:∀ a b c,lt b a=false->lt c b=false->lt c a=false
section
variable {n:Nat}{lt:Nat->Nat->Bool}{s:Shared}
def askIn (n:Nat) (lt:Nat->Nat->Bool):Nat->Nat->(Bool->Shared->Prop)->Shared->Prop:=λi j C s=>i < n/\j < n/\C (lt i j) s
noncomputable def gt (p:Array Nat) (i:Nat):Nat:=p.getD i 0
def Pm (n:Nat) (p:Array Nat):Prop:=p.Perm (range n).toArray
def Dn (lt:Nat->Nat->Bool) (p:Array Nat) (m:Nat):Prop:=∀ i j,i < j->j < m->lt (gt p i) (gt p j)=false
def Up (lt:Nat->Nat->Bool) (p:Array Nat) (m:Nat):Prop:=∀ i j,i < j->j < m->lt (gt p j) (gt p i)=false
def Eqs (lt:Nat->Nat->Bool) (p:Array Nat) (a b:Nat):Prop:=∀ i j,a<=i->i < b->a<=j->j < b->lt (gt p i) (gt p j)=false
theorem Pm.size {p:Array Nat} (h:Pm n p):p.size=n:=by
 have:=h.size_eq
 simpa using this
theorem Pm.bd {p:Array Nat} (h:Pm n p) (pos:0 < n) (i:Nat):gt p i < n:=by
 unfold gt
 by_cases hi:i < p.size
 ·have:p[i]∈(range n).toArray:=h.mem_iff.mp (Array.getElem_mem hi)
  rw [getD,dif_pos hi]
  simpa using this
 ·rw [getD,dif_neg hi]
  exact pos
theorem ve {p:Array Nat}{i:Nat}:gt p i=p[i]?.getD 0:=by
 unfold gt
 exact getD_eq_getD_getElem? ..
theorem rL {p:Array Nat}{i j:Nat} (hj:j<=p.size) (k:Nat):gt (kas_rev p i j) k=if i<=k/\k < j then gt p (i+j - 1 - k) else gt p k:=by
 rw [ve,ve,ve]
 unfold kas_rev
 rw [getElem?_mirror_all hj]
 split<;>rfl
theorem zf {p:Array Nat}{cC d:Nat} (hs:cC < p.size) (hd:d<=cC) (k:Nat):gt (bubble p cC d) k=if k=cC - d then gt p cC else if cC - d < k/\k<=cC then gt p (k - 1) else gt p k:=by
 simp only [ve]
 rw [getElem?_bubble hs d hd]
 split
 ·rfl
 ·split<;>rfl
theorem Pm.rev {p:Array Nat} (h:Pm n p) (i j:Nat):Pm n (kas_rev p i j):=trans (mirror_perm _ _ _ _) h
theorem uA {α:Type}{kP:Nat->Nat->(Bool->Shared->Prop)->Shared->Prop}{Q:α->Shared->Prop}{P:α->Prop} (hc:∀ i j C,i < n->j < n->C (lt i j) s->kP i j C s) (hq:∀ a,P a->Q a s):∀ t:KasT α,t.kasWp (askIn n lt) (λa _=>P a) s->t.kasWp kP Q s
 | .ret a,h=>hq a h
 | .ask i j k,⟨h1,h2,h3⟩=>hc i j _ h1 h2 (uA hc hq (k (lt i j)) h3)
theorem t8 {α β:Type}{t:KasT α}{f:α->KasT β}{P:α->Prop}{Q:β->Prop} (h:t.kasWp (askIn n lt) (λa _=>P a) s) (k:∀ a,P a->(f a).kasWp (askIn n lt) (λb _=>Q b) s):(t.bind f).kasWp (askIn n lt) (λb _=>Q b) s:=by
 rw [KasT.kasWp_bind]
 exact uA (λi j C h1 h2 h3=>⟨h1,h2,h3⟩) (λa ha=>k a ha) t h
variable (O:Ord lt) (two:2<=n)
include O
theorem Ord.irr (a:Nat):lt a a=false:=by
 cases h:lt a a with
 | false=>rfl
 | true=>rw [← h];exact O.as a a h
theorem Ord.lt_le {a b c:Nat} (h1:lt a b=true) (h2:lt c b=false):lt a c=true:=by
 cases h:lt a c with
 | true=>rfl
 | false =>
  -- c<=a,b<=c
  have:=O.tr b c a h2 h
  rw [this] at h1;cases h1
include two
theorem yy {p:Array Nat} (hp:Pm n p):∀ (f m:Nat),1<=m->(kas_asc p f m).kasWp (askIn n lt) (λm' _=>m<=m'/\m'<=m+f/\(∀ k,m<=k->k < m'->lt (gt p k) (gt p (k - 1))=false)/\(m' < m+f->lt (gt p m') (gt p (m' - 1))=true)) s
 | 0,m,_=>by
  rw [kas_asc]
  exact ⟨le_refl _,le_refl _,λk h1 h2=>by omega,λh=>by omega⟩
 | f+1,m,hm=>by
  rw [kas_asc]
  refine ⟨hp.bd (by omega) m,hp.bd (by omega) (m - 1),?_⟩
  cases h:lt (p.getD m 0) (p.getD (m - 1) 0) with
  | true =>
   dsimp only;rw [if_pos rfl]
   exact ⟨le_refl _,by omega,λk h1 h2=>by omega,λ_=>h⟩
  | false =>
   dsimp only;rw [if_neg Bool.false_ne_true]
   refine uA (λi j C h1 h2 h3=>⟨h1,h2,h3⟩) (λm' h'=>?_) _ (yy hp f (m+1) (by omega))
   obtain ⟨a1,a2,a3,a4⟩:=h'
   refine ⟨by omega,by omega,λk h1 h2=>?_,λh'=>a4 (by omega)⟩
   by_cases z:k=m
   ·rw [z];exact h
   ·exact a3 k (by omega) h2
omit two in
theorem Up.of_steps {p:Array Nat}{m m':Nat} (hm:Up lt p m) (st:∀ k,m<=k->k < m'->1<=k->lt (gt p k) (gt p (k - 1))=false):Up lt p m':=by
 intro i j
 induction j with
 | zero=>intro h;omega
 | succ j ih =>
  intro dj hj
  by_cases z:j+1 < m
  ·exact hm i (j+1) dj z
  ·have s1:=st (j+1) (by omega) hj (by omega)
   rw [Nat.add_sub_cancel] at s1
   by_cases e:i=j
   ·rw [e];exact s1
   ·exact O.tr _ _ _ (ih (by omega) (by omega)) s1
omit two O in
theorem Dn.up {p:Array Nat}{m:Nat} (hm:m<=p.size) (h:Dn lt p m):Up lt (kas_rev p 0 m) m:=by
 intro i j dj hj
 rw [rL hm,rL hm,if_pos ⟨zero_le _,hj⟩,if_pos ⟨zero_le _,by omega⟩]
 exact h _ _ (by omega) (by omega)
omit two O in
theorem Dn.turn {p:Array Nat}{m a:Nat} (hm:m<=p.size) (h:Dn lt p m) (e:Eqs lt p a m):Dn lt (kas_rev p a m) m:=by
 intro i j dj hj
 rw [rL hm,rL hm]
 by_cases h1:a<=i
 ·rw [if_pos ⟨h1,by omega⟩,if_pos ⟨by omega,hj⟩]
  exact e _ _ (by omega) (by omega) (by omega) (by omega)
 ·rw [if_neg (by omega)]
  by_cases h2:a<=j
  ·rw [if_pos ⟨h2,hj⟩]
   exact h _ _ (by omega) (by omega)
  ·rw [if_neg (by omega)]
   exact h _ _ dj hj
omit two in
theorem Dn.next {p:Array Nat}{m:Nat} (h:Dn lt p m) (hm:1<=m) (st:lt (gt p (m - 1)) (gt p m)=false):Dn lt p (m+1):=by
 intro i j dj hj
 by_cases z:j < m
 ·exact h i j dj z
 ·have:j=m:=by omega
  subst this
  by_cases e:i=j - 1
  ·rw [e];exact st
  ·exact O.tr _ _ _ st (h i (j - 1) (by omega) (by omega))
theorem vZ:∀ (f:Nat) (p:Array Nat) (m q:Nat),Pm n p->1<=m->m+f<=n->q < m->Dn lt p m->Eqs lt p (m - (q+1)) m →
  (kas_desc f p m q).kasWp (askIn n lt) (λr _=>Pm n r.1/\1<=r.2.1/\r.2.1<=n/\r.2.2 < r.2.1/\Dn lt r.1 r.2.1/\Eqs lt r.1 (r.2.1 - (r.2.2+1)) r.2.1) s
 | 0,p,m,q,hp,h1,h2,h3,h4,h5=>by
  rw [kas_desc]
  exact ⟨hp,h1,(by show m<=n;omega),h3,h4,h5⟩
 | f+1,p,m,q,hp,h1,h2,h3,h4,h5=>by
  rw [kas_desc]
  have one:∀ (p':Array Nat),Pm n p'->Eqs lt p' (m+1 - (0+1)) (m+1):=λp' _ i j a b c d=>by
   have:i=m:=by omega
   have:j=m:=by omega
   subst i;subst j
   exact O.irr _
  refine ⟨hp.bd (by omega) m,hp.bd (by omega) (m - 1),?_⟩
  cases h:lt (p.getD m 0) (p.getD (m - 1) 0) with
  | true =>
   dsimp only;rw [if_pos rfl]
   have st:lt (gt p (m - 1)) (gt p m)=false:=O.as _ _ h
   split
   ·have sz:m<=p.size:=by rw [hp.size];omega
    refine vZ f _ (m+1) 0 (hp.rev _ _) (by omega) (by omega) (by omega) (Dn.next O (h4.turn sz h5) h1 ?_) (one _ (hp.rev _ _))
    rw [rL sz,rL sz,if_pos ⟨by omega,by omega⟩,if_neg (by omega)]
    refine O.tr _ _ _ st ?_
    exact h5 _ _ (by omega) (by omega) (by omega) (by omega)
   ·exact vZ f _ (m+1) 0 hp (by omega) (by omega) (by omega) (Dn.next O h4 h1 st) (one _ hp)
  | false =>
   dsimp only;rw [if_neg Bool.false_ne_true]
   refine ⟨hp.bd (by omega) (m - 1),hp.bd (by omega) m,?_⟩
   cases h':lt (p.getD (m - 1) 0) (p.getD m 0) with
   | true =>
    dsimp only;rw [if_pos rfl]
    exact ⟨hp,h1,(by show m<=n;omega),h3,h4,h5⟩
   | false =>
    dsimp only;rw [if_neg Bool.false_ne_true]
    refine vZ f p (m+1) (q+1) hp (by omega) (by omega) (by omega) (Dn.next O h4 h1 h') λi j a b c d=>?_
    have up:∀ i,m - (q+1)<=i->i < m->lt (gt p i) (gt p m)=false:=λi x y=>O.tr _ _ _ h' (h5 i (m - 1) x y (by omega) (by omega))
    have dn:∀ i,m - (q+1)<=i->i < m->lt (gt p m) (gt p i)=false:=λi x y=>O.tr _ _ _ (h5 (m - 1) i (by omega) (by omega) x y) h
    by_cases zi:i=m
    ·by_cases zj:j=m
     ·rw [zi,zj];exact O.irr _
     ·rw [zi];exact dn j (by omega) (by omega)
    ·by_cases zj:j=m
     ·rw [zj];exact up i (by omega) (by omega)
     ·exact h5 i j (by omega) (by omega) (by omega) (by omega)
theorem B6 {p:Array Nat}{m:Nat} (hp:Pm n p) (h1:1<=m) (h2:m<=n) (h:Dn lt p m):(kas_tail3 m n p).kasWp (askIn n lt) (λr _=>1<=r.1/\r.1<=n/\Pm n r.2/\Up lt r.2 r.1) s:=by
 unfold kas_tail3
 refine t8 (yy O two (hp.rev 0 m) (n - m) m h1) λm' ⟨a1,a2,a3,_⟩=>?_
 have up:=h.up (by rw [hp.size];exact h2)
 exact ⟨by omega,by omega,hp.rev 0 m,Up.of_steps O up λk x y _=>a3 k x y⟩
theorem Af {p:Array Nat}{m:Nat} (hp:Pm n p) (h1:1<=m) (h2:m < n) (h:Dn lt p (m+1)):(kas_descPart m n p).kasWp (askIn n lt) (λr _=>1<=r.1/\r.1<=n/\Pm n r.2/\Up lt r.2 r.1) s:=by
 unfold kas_descPart
 refine t8 (vZ O two (n - (m+1)) p (m+1) 0 hp (by omega) (by omega) (by omega) h λi j a b c d=>?_) λr ⟨b1,b2,b3,b4,b5,b6⟩=>?_
 ·have:i=m:=by omega
  have:j=m:=by omega
  subst i;subst j
  exact O.irr _
 ·split
  ·exact B6 O two (b1.rev _ _) b2 b3 (b5.turn (by rw [b1.size];exact b3) b6)
  ·exact B6 O two b1 b2 b3 b5
theorem IK {p:Array Nat} (hp:Pm n p):(kas_count n p).kasWp (askIn n lt) (λr _=>1<=r.1/\r.1<=n/\Pm n r.2/\Up lt r.2 r.1) s:=by
 unfold kas_count
 refine t8 (yy O two hp (n - 1) 1 (le_refl _)) λm ⟨a1,a2,a3,a4⟩=>?_
 have up1:Up lt p m:=Up.of_steps O (m:=1) (λi j x y=>by omega) λk x y z=>a3 k x y
 split
 ·exact ⟨a1,by omega,hp,up1⟩
 ·rename_i ne
  have ne:m≠n:=by simpa using ne
  have eY:=a4 (by omega)
  split
  ·refine ⟨hp.bd (by omega) 0,hp.bd (by omega) (m - 1),?_⟩
   cases h:lt (p.getD 0 0) (p.getD (m - 1) 0) with
   | true =>
    dsimp only;rw [if_pos rfl]
    exact ⟨a1,by omega,hp,up1⟩
   | false =>
    dsimp only;rw [if_neg Bool.false_ne_true]
    have all:Eqs lt p 0 m:=λi j x1 x2 y1 y2=>by
     -- the first is not less than the eY,and they rise
     have l0:∀ i,i < m->lt (gt p i) (gt p 0)=false:=λi x=>by
      by_cases z:i=0
      ·rw [z];exact O.irr _
      ·exact up1 0 i (by omega) x
     have lz:∀ j,j < m->lt (gt p (m - 1)) (gt p j)=false:=λj x=>by
      by_cases z:j=m - 1
      ·rw [z];exact O.irr _
      ·exact up1 j (m - 1) (by omega) (by omega)
     -- i against j: i<=eY<=first<=j,whichever
     have f1:lt (gt p i) (gt p (m - 1))=false:=O.tr _ _ _ h (l0 i x2)
     exact O.tr _ _ _ (lz j y2) f1
    have sz:m<=p.size:=by rw [hp.size];omega
    have all2:Dn lt (kas_rev p 0 m) m:=Dn.turn sz (λi j x y=>all i j (zero_le _) (by omega) (zero_le _) y) all
    refine Af O two (hp.rev _ _) a1 (by omega) (Dn.next O all2 a1 ?_)
    rw [rL sz,rL sz,if_pos ⟨zero_le _,by omega⟩,if_neg (by omega)]
    refine O.tr _ _ _ (O.as _ _ eY) ?_
    exact all _ _ (zero_le _) (by omega) (zero_le _) (by omega)
  ·have:m=1:=by omega
   subst this
   exact Af O two hp (le_refl _) (by omega) (Dn.next O (λi j x y=>by omega) (le_refl _) (O.as _ _ eY))
theorem za {p:Array Nat}{k:Nat} (hp:Pm n p) (hk:k < n) (up:Up lt p k):∀ (f l r:Nat),l<=r->r<=k->r - l<=f->(∀ i,i < l->lt (gt p k) (gt p i)=false)->(∀ i,r<=i->i < k->lt (gt p k) (gt p i)=true) →
  (kas_place p k f l r).kasWp (askIn n lt) (λl' _=>l'<=k/\(∀ i,i < l'->lt (gt p k) (gt p i)=false)/\∀ i,l'<=i->i < k->lt (gt p k) (gt p i)=true) s
 | 0,l,r,h1,h2,h3,h4,h5=>by
  rw [kas_place]
  exact ⟨by omega,h4,λi x y=>h5 i (by omega) y⟩
 | f+1,l,r,h1,h2,h3,h4,h5=>by
  rw [kas_place]
  split
  ·exact ⟨by omega,h4,λi x y=>h5 i (by omega) y⟩
  ·refine ⟨hp.bd (by omega) k,hp.bd (by omega) _,?_⟩
   cases h:lt (p.getD k 0) (p.getD ((l+r) / 2) 0) with
   | true =>
    dsimp only;rw [if_pos rfl]
    refine za hp hk up f l ((l+r) / 2) (by omega) (by omega) (by omega) h4 λi x y=>?_
    by_cases z:i=(l+r) / 2
    ·rw [z];exact h
    ·exact O.lt_le h (up _ _ (by omega) y)
   | false =>
    dsimp only;rw [if_neg Bool.false_ne_true]
    refine za hp hk up f ((l+r) / 2+1) r (by omega) (by omega) (by omega) (λi x=>?_) h5
    by_cases z:i=(l+r) / 2
    ·rw [z];exact h
    ·exact O.tr _ _ _ (up i ((l+r) / 2) (by omega) (by omega)) h
theorem CF:∀ (f:Nat) (p:Array Nat) (k:Nat),Pm n p->Up lt p k->1<=k->k+f=n->(kas_bin f p k).kasWp (askIn n lt) (λp' _=>Pm n p'/\Up lt p' n) s
 | 0,p,k,hp,up,h1,h2=>by
  rw [kas_bin]
  have:k=n:=by omega
  subst this
  exact ⟨hp,up⟩
 | f+1,p,k,hp,up,h1,h2=>by
  rw [kas_bin]
  refine t8 (za O two hp (by omega) up k 0 k (zero_le _) (le_refl _) (by omega) (λi h=>by omega) λi x y=>by omega) λl ⟨c1,c2,c3⟩=>?_
  refine CF f _ (k+1) (trans (bubble_perm _ _ _) hp) (λi j dj hj=>?_) (by omega) (by omega)
  have hk:k < p.size:=by rw [hp.size];omega
  rw [zf hk (by omega),zf hk (by omega),show k - (k - l)=l by omega]
  by_cases j1:j=l
  ·rw [if_pos j1,if_neg (by omega),if_neg (by omega)]
   exact c2 i (by omega)
  ·rw [if_neg j1]
   by_cases j2:l < j/\j<=k
   ·rw [if_pos j2]
    by_cases i1:i=l
    ·rw [if_pos i1]
     exact O.as _ _ (c3 (j - 1) (by omega) (by omega))
    ·rw [if_neg i1]
     by_cases i2:l < i/\i<=k
     ·rw [if_pos i2];exact up _ _ (by omega) (by omega)
     ·rw [if_neg i2];exact up _ _ (by omega) (by omega)
   ·rw [if_neg j2,if_neg (by omega),if_neg (by omega)]
    exact up _ _ dj (by omega)
theorem GJ:(kas_sort n).kasWp (askIn n lt) (λp _=>Pm n p/\Up lt p n) s:=by
 unfold kas_sort
 refine t8 (IK O two (p:=(range n).toArray) (Array.Perm.refl _)) λr ⟨a1,a2,a3,a4⟩=>?_
 split
 ·refine CF O two _ _ _ a3 ?_ (by omega) (by omega)
  rw [Nat.max_eq_left a1]
  exact a4
 ·have:r.1=n:=by omega
  rw [this] at a4
  exact ⟨a3,a4⟩
end
end DL
namespace DL
open PySem PySem.W PySem.Spec PyProof.Rows
section
variable {prog:Program}{w:World}{A:Around}{E:Value->Shared->Prop}{s:Shared}
noncomputable def byP (vs:List Value) (p:Array Nat):List Value:=p.toList.map λi=>vs.getD i Value.none
theorem KW (vs:List Value):byP vs (range vs.length).toArray=vs:=by
 unfold byP
 refine List.ext_getElem (by simp) λi h1 h2=>?_
 simp [h2]
theorem Ih {vs:List Value}{p:Array Nat} (h:Pm vs.length p):(byP vs p).length=vs.length:=by
 unfold byP
 rw [length_map,length_toList,h.size]
def KeptBut (a:Addr) (h h':Heap):Prop:=∀ b o,b≠a->h.get? b=some o->h'.get? b=some o
theorem DC {a:Addr}{vs:List Value}{e:Nat}{κ:SortKind}{lt:Nat->Nat->Bool}{P:PySem.Fin->Shared->Prop} (ho:s.heap.get? a=some (seqObj "list" vs.toArray e)) (gX:vs.length < 64) (O:Ord lt)
  (kind:∀ h' Q,KeptBut a s.heap h'->2<=vs.length->Q κ { s with heap:=h' }->wpAny (model prog w) A (keyKind' vs.toArray) Q E { s with heap:=h' })
  (less:∀ h' i j C,KeptBut a s.heap h'->i < vs.length->j < vs.length->C (lt i j) { s with heap:=h' }->wpAny (model prog w) A (keyLt' κ (vs.getD i Value.none) (vs.getD j Value.none)) C (λ_ _=>False) { s with heap:=h' })
  (fin:∀ p h' c,Pm vs.length p->Up lt p vs.length->KeptBut a s.heap h'->h'.get? a=some (seqObj "list" (byP vs p).toArray c)->P (.done (.ret .none)) { s with heap:=h' }) :
  wpAny (model prog w) A (Builtin.«list.sort» ⟨[.ref a],[]⟩) P E s:=by
 have line:64<=sizeLine:=by rw [sizeLine_eq];decide
 obtain ⟨g1,jn⟩:∃ g1,g1=s.heap.update a (mapSeq λ_=>(#[]:Array Value)):=⟨_,rfl⟩
 obtain ⟨e1,o1⟩:∃ e1,g1.get? a=some (seqObj "list" #[] e1):=⟨_,by rw [jn];exact get?_update_seq ho _⟩
 have k1:KeptBut a s.heap g1:=λb o ne x=>by rw [jn];exact (get?_update_other _ _ (Ne.symm ne)).trans x
 obtain ⟨g2,jo⟩:∃ g2,g2=(g1.push (seqObj "tuple" vs.toArray 0)).push (seqObj "list" #[] 0):=⟨_,rfl⟩
 have o2:g2.get? a=some (seqObj "list" #[] e1):=by rw [jo];exact get?_push_of_some _ (get?_push_of_some _ o1)
 have k2:KeptBut a s.heap g2:=λb o ne x=>by rw [jo];exact get?_push_of_some _ (get?_push_of_some _ (k1 b o ne x))
 have iF:∀ jp,(2<=vs.length->jp=κ)->wpAny (model prog w) A ((if vs.toArray.size < 2 then pure () else sortRuns').run (SortSt.mk' jp (vs.toArray.zip vs.toArray) #[] 7 none))
   (λr s'=>s'={ s with heap:=g2 }/\∃ p,Pm vs.length p/\Up lt p vs.length/\(arrOf r.2).map (·.2)=(byP vs p).toArray/\failedOf r.2=none) E { s with heap:=g2 }:=λjp mY=>by
  rcases lt_or_ge vs.length 2 with eK | c8
  ·rw [if_pos (by rw [size_toArray];exact eK)]
   refine wpAny_pure ⟨rfl,(range vs.length).toArray,Array.Perm.refl _,λi j x y=>by omega,?_,rfl⟩
   rw [KW]
   show ((vs.toArray.zip vs.toArray).map (·.2))=_
   refine Array.ext (by simp) λi h1 h2=>by simp
  ·rw [if_neg (by rw [size_toArray];omega),mY c8]
   refine kat_run (ks:=vs) (vs:=vs) (G:=λp s'=>(Pm vs.length p/\Up lt p vs.length)/\s'={ s with heap:=g2 }) (Q:=λst s'=>s'={ s with heap:=g2 }/\∃ p,Pm vs.length p/\Up lt p vs.length/\(arrOf st).map (·.2)=(byP vs p).toArray/\failedOf st=none) rfl c8 gX ?_ ?_
   ·rintro p st s' hz jq aT ⟨⟨hp,up⟩,rfl⟩
    exact ⟨rfl,p,hp,up,kat_snds rfl jq,aT⟩
   ·exact uA (P:=λp=>Pm vs.length p/\Up lt p vs.length) (λi j C h1 h2 h3=>less g2 i j C k2 h1 h2 h3) (λp hp=>⟨hp,rfl⟩) _ (GJ O c8)
 rw [list_sort_plain]
 refine wpAny_bind (listItems_at ho rfl (wpAny_bind (listUpdate_at ho rfl ?_ (by rw [size_toArray];omega) (zero_le _))))
 rw [← jn]
 refine wpAny_bind (seqEpoch_at o1 rfl (wpAny_bind (wpAny_newTuple (wpAny_bind (wpAny_newList (wpAny_holding ?_) (zero_le _))) (by show vs.length<=_;omega))))
 show wpAny (model prog w) A _ P E { s with heap:=(g1.push (seqObj "tuple" vs.toArray 0)).push (seqObj "list" #[] 0) }
 rw [← jo]
 dsimp only
 rcases lt_or_ge vs.length 2 with eK | c8
 all_goals
  first
   | (rw [if_pos (by rw [size_toArray];exact eK)];refine wpAny_bind (wpAny_pure ?_);have step:=iF general' λh=>by omega)
   | (rw [if_neg (by rw [size_toArray];omega)];refine wpAny_bind (kind g2 _ k2 c8 ?_);have step:=iF κ λ_=>rfl)
  refine wpAny_bind (wpAny_mono step (λr s' h=>?_) λ_ _ x=>x)
  obtain ⟨rfl,p,hp,up,jq,aT⟩:=h
  rw [jq,aT]
  refine wpAny_bind (seqEpoch_at o2 rfl (wpAny_bind (listUpdate_at o2 rfl ?_ (zero_le _) ?_)))
  ·dsimp only
   rw [bne_self_eq_false,if_neg Bool.false_ne_true]
   exact wpAny_pure (fin p _ _ hp up (λb o ne x=>(get?_update_other _ _ (Ne.symm ne)).trans (k2 b o ne x)) (get?_update_seq o2 λ_=>(byP vs p).toArray))
  ·show (byP vs p).toArray.size<=_
   rw [size_toArray,Ih hp]
   omega
theorem zd {l:Addr}{vs:List Value}{κ:SortKind}{lt:Nat->Nat->Bool}{Q:Value->Shared->Prop} (gX:vs.length < 64) (O:Ord lt)
  (col:∀ Q':List Value->Shared->Prop,(∀ h' tk,(∀ b o,s.heap.get? b=some o->h'.get? b=some o)->s.heap.objs.size<=h'.objs.size->Q' vs { s with heap:=h',toks:=tk })->wpAny (model prog w) A.in1 (collect (.ref l)) Q' E s)
  (kind:∀ h' tk Q,(∀ b o,s.heap.get? b=some o->h'.get? b=some o)->2<=vs.length->Q κ { s with heap:=h',toks:=tk }->wpAny (model prog w) A.in1.in1 (keyKind' vs.toArray) Q (λ_ _=>False) { s with heap:=h',toks:=tk })
  (less:∀ h' tk i j C,(∀ b o,s.heap.get? b=some o->h'.get? b=some o)->i < vs.length->j < vs.length->C (lt i j) { s with heap:=h',toks:=tk }->wpAny (model prog w) A.in1.in1 (keyLt' κ (vs.getD i Value.none) (vs.getD j Value.none)) C (λ_ _=>False) { s with heap:=h',toks:=tk })
  (fin:∀ p h' tk D c,Pm vs.length p->Up lt p vs.length->(∀ b o,s.heap.get? b=some o->h'.get? b=some o)->s.heap.objs.size<=D->h'.get? D=some (seqObj "list" (byP vs p).toArray c)->Q (.ref D) { s with heap:=h',toks:=tk }) :
  wpAny (model prog w) A (call (.builtin "sorted") [Value.ref l]) Q E s:=by
 have line:64<=sizeLine:=by rw [sizeLine_eq];decide
 refine Calls.call_function_entry kind_sorted plain_sorted entry_sorted (args_sorted1 _) ?_;refine wpAny_bind (m:=checkCount "sorted" 1 1 _) (wpAny_pure (wpAny_bind (col _ λg tk kg above=>wpAny_bind (wpAny_newList ?_ (by omega)))))
 have bi:(g.push (seqObj "list" vs.toArray 0)).get? g.objs.size=some (seqObj "list" vs.toArray 0):=get?_push_size _ rfl
 have old:∀ (h':Heap),KeptBut g.objs.size (g.push (seqObj "list" vs.toArray 0)) h'->∀ b o,s.heap.get? b=some o->h'.get? b=some o:=λh' k b o x =>
  k b o (ne_of_lt (lt_of_lt_of_le (lt_size x) above)) (get?_push_of_some _ (kg b o x))
 refine wpAny_bind (wpAny_holding (wpAny_call_entry PyProof.Rows.slot_list_sort ⟨_,bi,rfl⟩ PyProof.Rows.entry_list_sort ?_ (args_list_sort _)))
 refine DC (s:={ s with heap:=g.push (seqObj "list" vs.toArray 0),toks:=tk }) (lt:=lt) (κ:=κ) bi gX O (λh' Q' k two q=>wpAny_mono (kind h' tk Q' (old h' k) two q) (λ_ _ x=>x) λ_ _ x=>x.elim) (λh' i j C k=>less h' tk i j C (old h' k)) λp h' c hp up k here=>?_
 exact ⟨_,rfl,wpAny_pure ⟨_,rfl,fin p h' tk _ c hp up (old h' k) above here⟩⟩
end
end DL
namespace DL
open PySem PySem.W PySem.Spec PyProof.Rows L2
noncomputable def rk:D->Nat
 | .non=>0
 | .bl _=>1
 | .int _=>2
 | .str _=>3
 | .tup _=>4
 | .lst _=>5
noncomputable def cI (a b:Int):Ordering:=if a < b then .lt else if b < a then .gt else .eq
mutual
noncomputable def cO:D->D->Ordering
 | .int a,.int b=>cI a b
 | .tup xs,.tup ys=>cOA xs ys
 | a,b=>cI (rk a) (rk b)
noncomputable def cOA:List D->List D->Ordering
 | [],[]=>.eq
 | [],_::_=>.lt
 | _::_,[]=>.gt
 | x::xs,y::ys=>(cO x y).then (cOA xs ys)
end
theorem tm (a b:Int):cI b a=(cI a b).swap:=by
 unfold cI
 by_cases h1:a < b
 ·rw [if_pos h1,if_neg (by omega),if_pos h1];rfl
 ·by_cases h2:b < a
  ·rw [if_pos h2,if_neg h1,if_pos h2];rfl
  ·rw [if_neg h2,if_neg h1,if_neg h1,if_neg h2];rfl
theorem Ca {a b:D} (h:rk a≠rk b):cO a b=cI (rk a) (rk b):=by
 cases a<;>cases b<;>first | rfl | (exact absurd rfl h) | (simp [cO];done)
mutual
theorem xE:∀ a b:D,cO b a=(cO a b).swap
 | .int a,b=>by
  cases b<;>simp only [cO]<;>exact tm _ _
 | .tup xs,b=>by
  cases b<;>simp only [cO]<;>first | exact tm _ _ | exact zZ _ _
 | .non,b=>by cases b<;>simp only [cO]<;>exact tm _ _
 | .bl _,b=>by cases b<;>simp only [cO]<;>exact tm _ _
 | .str _,b=>by cases b<;>simp only [cO]<;>exact tm _ _
 | .lst _,b=>by cases b<;>simp only [cO]<;>exact tm _ _
theorem zZ:∀ xs ys:List D,cOA ys xs=(cOA xs ys).swap
 | [],[]=>by simp [cOA]
 | [],_::_=>by simp [cOA]
 | _::_,[]=>by simp [cOA]
 | x::xs,y::ys=>by
  rw [cOA,cOA,xE x y,zZ xs ys]
  cases cO x y<;>rfl
end
noncomputable def dl (a b:D):Bool:=cO a b == .lt
noncomputable def dlA (xs ys:List D):Bool:=cOA xs ys == .lt
theorem xY (a b:Int):(cI a b == Ordering.lt)=decide (a < b):=by
 unfold cI
 by_cases h1:a < b
 ·rw [if_pos h1];simp [h1]
 ·rw [if_neg h1]
  split<;>simp [h1]
theorem rX {a b:Int}:dl (.int a) (.int b)=decide (a < b):=by
 unfold dl
 rw [cO,xY]
theorem tJ {xs ys:List D}:dl (.tup xs) (.tup ys)=dlA xs ys:=by
 unfold dl dlA
 rw [cO]
theorem vm:dlA [] []=false:=by unfold dlA;simp [cOA]
theorem sX {y:D}{ys:List D}:dlA [] (y::ys)=true:=by unfold dlA;simp [cOA]
theorem tK {y:D}{ys:List D}:dlA (y::ys) []=false:=by unfold dlA;simp [cOA]
theorem ug {x y:D}{xs ys:List D}:dlA (x::xs) (y::ys)=(dl x y||(!dl y x&&dlA xs ys)):=by
 unfold dlA dl
 rw [cOA,xE x y]
 cases cO x y<;>simp [Ordering.then,Ordering.swap]
theorem zw {a b:D} (h:rk a < rk b):dl a b=true:=by
 unfold dl
 rw [Ca (ne_of_lt h),xY]
 simp;omega
theorem Kn {a b:D} (h:rk b < rk a):dl a b=false:=by
 unfold dl
 rw [Ca (ne_of_gt h),xY]
 simp;omega
theorem vE {a b:D} (h:rk a=rk b) (h1:rk a≠2) (h2:rk a≠4):dl a b=false:=by
 unfold dl
 cases a<;>cases b<;>first | (simp [rk] at h;done) | (exact absurd rfl h1) | (exact absurd rfl h2) | (simp [cO,cI,rk];done)
mutual
theorem uu:∀ a b c:D,dl b a=false->dl c b=false->dl c a=false:=λa b c h1 h2=>by
 have r1:rk a<=rk b:=Nat.le_of_not_lt λh=>by rw [zw h] at h1;cases h1
 have r2:rk b<=rk c:=Nat.le_of_not_lt λh=>by rw [zw h] at h2;cases h2
 rcases lt_or_ge (rk a) (rk c) with h | h
 ·exact Kn h
 ·have e1:rk b=rk a:=by omega
  have e2:rk c=rk a:=by omega
  match a,b,c with
  | .int a,.int b,.int c =>
   rw [rX] at h1 h2 ⊢
   simp at h1 h2 ⊢
   omega
  | .tup xs,.tup ys,.tup zs =>
   rw [tJ] at h1 h2 ⊢
   exact AU xs ys zs h1 h2
  | .non,_,_=>exact vE e2 (by rw [e2];decide) (by rw [e2];decide)
  | .bl _,_,_=>exact vE e2 (by rw [e2];simp [rk]) (by rw [e2];simp [rk])
  | .str _,_,_=>exact vE e2 (by rw [e2];simp [rk]) (by rw [e2];simp [rk])
  | .lst _,_,_=>exact vE e2 (by rw [e2];simp [rk]) (by rw [e2];simp [rk])
termination_by a b c=>sizeOf a+sizeOf b+sizeOf c
decreasing_by all_goals (simp_wf;omega)
theorem AU:∀ xs ys zs:List D,dlA ys xs=false->dlA zs ys=false->dlA zs xs=false
 | [],_,[],_,_=>vm
 | [],_,z::zs,_,_=>tK
 | x::xs,[],_,h1,_=>by rw [sX] at h1;cases h1
 | x::xs,y::ys,[],_,h2=>by rw [sX] at h2;cases h2
 | x::xs,y::ys,z::zs,h1,h2=>by
  simp only [ug,Bool.or_eq_false_iff,Bool.and_eq_false_iff,Bool.not_eq_false'] at h1 h2 ⊢
  obtain ⟨a1,a2⟩:=h1
  obtain ⟨b1,b2⟩:=h2
  refine ⟨uu x y z a1 b1,?_⟩
  cases hx:dl x z with
  | true=>exact .inl rfl
  | false =>
   right
   rcases a2 with a2 | a2
   ·have:=uu y z x b1 hx
    rw [a2] at this;cases this
   ·rcases b2 with b2 | b2
    ·have:=uu z x y hx a1
     rw [b2] at this;cases this
    ·exact AU xs ys zs a2 b2
termination_by xs ys zs=>sizeOf xs+sizeOf ys+sizeOf zs
decreasing_by all_goals (simp_wf;omega)
end
theorem Cn (a b:D) (h:dl a b=true):dl b a=false:=by
 unfold dl at h ⊢
 rw [xE a b]
 cases e:cO a b<;>rw [e] at h<;>first | rfl | (cases h;done)
theorem wc (ds:List D):Ord λi j=>dl (ds.getD i .non) (ds.getD j .non):=⟨λa b h=>Cn _ _ h,λa b c h1 h2=>uu _ _ _ h1 h2⟩
mutual
noncomputable def cmB:D->D->Bool
 | .int _,.int _=>true
 | .tup xs,.tup ys=>cmA xs ys
 | _,_=>false
noncomputable def cmA:List D->List D->Bool
 | x::xs,y::ys=>cmB x y&&cmA xs ys
 | _,_=>true
end
mutual
theorem uw:∀ a b:D,cmB a b=true->deq a b=(!dl a b&&!dl b a)
 | .int a,.int b,_=>by
  rw [rX,rX]
  by_cases h:a=b
  ·simp [deq,h]
  ·rcases Int.lt_or_gt_of_ne h with h' | h'
   ·simp [deq,h,h']
   ·simp [deq,h,h']
 | .tup xs,.tup ys,h=>by
  rw [cmB] at h
  rw [deq,tJ,tJ]
  exact AK xs ys h
 | .non,_,h=>by simp [cmB] at h
 | .bl _,_,h=>by simp [cmB] at h
 | .str _,_,h=>by simp [cmB] at h
 | .lst _,_,h=>by simp [cmB] at h
 | .int _,.non,h=>by simp [cmB] at h
 | .int _,.bl _,h=>by simp [cmB] at h
 | .int _,.str _,h=>by simp [cmB] at h
 | .int _,.tup _,h=>by simp [cmB] at h
 | .int _,.lst _,h=>by simp [cmB] at h
 | .tup _,.non,h=>by simp [cmB] at h
 | .tup _,.bl _,h=>by simp [cmB] at h
 | .tup _,.str _,h=>by simp [cmB] at h
 | .tup _,.int _,h=>by simp [cmB] at h
 | .tup _,.lst _,h=>by simp [cmB] at h
theorem AK:∀ xs ys:List D,cmA xs ys=true->deqA xs ys=(!dlA xs ys&&!dlA ys xs)
 | [],[],_=>by simp [deqA,vm]
 | [],_::_,_=>by simp [deqA,sX,tK]
 | _::_,[],_=>by simp [deqA,sX,tK]
 | x::xs,y::ys,h=>by
  rw [cmA,and_eq_true] at h
  rw [deqA,uw x y h.1,AK xs ys h.2,ug,ug]
  cases h1:dl x y<;>cases h2:dl y x<;>simp
end
mutual
theorem v3:∀ a b:D,cmB a b=true->deq a b=true->a=b
 | .int a,.int b,_,h=>by simp [deq] at h;rw [h]
 | .tup xs,.tup ys,c,h=>by
  rw [cmB] at c
  rw [deq] at h
  rw [Ct xs ys c h]
 | .non,_,h,_=>by simp [cmB] at h
 | .bl _,_,h,_=>by simp [cmB] at h
 | .str _,_,h,_=>by simp [cmB] at h
 | .lst _,_,h,_=>by simp [cmB] at h
 | .int _,.non,h,_=>by simp [cmB] at h
 | .int _,.bl _,h,_=>by simp [cmB] at h
 | .int _,.str _,h,_=>by simp [cmB] at h
 | .int _,.tup _,h,_=>by simp [cmB] at h
 | .int _,.lst _,h,_=>by simp [cmB] at h
 | .tup _,.non,h,_=>by simp [cmB] at h
 | .tup _,.bl _,h,_=>by simp [cmB] at h
 | .tup _,.str _,h,_=>by simp [cmB] at h
 | .tup _,.int _,h,_=>by simp [cmB] at h
 | .tup _,.lst _,h,_=>by simp [cmB] at h
theorem Ct:∀ xs ys:List D,cmA xs ys=true->deqA xs ys=true->xs=ys
 | [],[],_,_=>rfl
 | [],_::_,_,h=>by simp [deqA] at h
 | _::_,[],_,h=>by simp [deqA] at h
 | x::xs,y::ys,c,h=>by
  rw [cmA,and_eq_true] at c
  rw [deqA,and_eq_true] at h
  rw [v3 x y c.1 h.1,Ct xs ys c.2 h.2]
end
open PySem.SeqAt in
theorem AF (e lt:Nat->Bool) (d:Bool) (f:Nat->Nat):∀ l:List Nat,ltFrom e lt d (l.map f)=ltFrom (λi=>e (f i)) (λi=>lt (f i)) d l
 | []=>rfl
 | i::l=>by rw [map_cons,ltFrom,ltFrom,AF e lt d f l]
open PySem.SeqAt in
theorem BK:∀ xs ys:List D,cmA xs ys=true->ltFrom (λj=>deq (xs.getD j .non) (ys.getD j .non)) (λj=>dl (xs.getD j .non) (ys.getD j .non)) (decide (xs.length < ys.length)) (range (min xs.length ys.length))=dlA xs ys
 | [],[],_=>by simp [ltFrom,vm]
 | [],_::_,_=>by simp [ltFrom,sX]
 | _::_,[],_=>by simp [ltFrom,tK]
 | x::xs,y::ys,c=>by
  rw [cmA,and_eq_true] at c
  have ih:=BK xs ys c.2
  rw [length_cons,length_cons,Nat.succ_min_succ,List.range_succ_eq_map,ltFrom,AF,ug]
  have e:ltFrom (λi=>deq ((x::xs).getD i.succ .non) ((y::ys).getD i.succ .non)) (λi=>dl ((x::xs).getD i.succ .non) ((y::ys).getD i.succ .non)) (decide (xs.length+1 < ys.length+1)) (range (min xs.length ys.length))=dlA xs ys:=by
   rw [← ih]
   congr 1
   simp
  rw [e]
  show (if deq x y=true then dlA xs ys else dl x y)=_
  rw [uw x y c.1]
  cases h1:dl x y<;>cases h2:dl y x<;>simp
theorem Co:∀ (xs ys:List D),cmA xs ys=true->∀ j,j < xs.length->j < ys.length->cmB (xs.getD j .non) (ys.getD j .non)=true
 | [],_,_,j,h,_=>by simp at h
 | _::_,[],_,j,_,h=>by simp at h
 | x::xs,y::ys,c,j,h1,h2=>by
  rw [cmA,and_eq_true] at c
  cases j with
  | zero=>exact c.1
  | succ j=>exact Co xs ys c.2 j (by simpa using h1) (by simpa using h2)
section
variable {X:Cx}{U:List (Addr×Obj)}{Y:L2.St}{H:Hp}{s:Shared}
open PySem.SeqAt in
theorem Fn (I:Inv X U Y H s):∀ (n:Nat) (A:Around),A.units+n < cLine->∀ (a b:D) (x y:V) (u v:Value),dep a<=n->cmB a b=true->Is X.K H a x->Is X.K H b y->RelV x u->RelV y v->RcLtAt A s u v (dl a b):=by
 intro n
 induction n with
 | zero =>
  intro A hu a b x y u v hd c ha hb ru rv
  cases a<;>cases b<;>simp [cmB] at c
  ·rename_i i j
   rw [pY ha] at ru
   rw [pY hb] at rv
   obtain ⟨t1,rfl⟩:=ru
   obtain ⟨t2,rfl⟩:=rv
   rw [rX]
   exact RcLtAt.int_int _ _ _ _
  ·rw [dep] at hd
   omega
 | succ n ih =>
  intro A hu a b x y u v hd c ha hb ru rv
  cases a<;>cases b<;>simp [cmB] at c
  ·rename_i i j
   rw [pY ha] at ru
   rw [pY hb] at rv
   obtain ⟨t1,rfl⟩:=ru
   obtain ⟨t2,rfl⟩:=rv
   rw [rX]
   exact RcLtAt.int_int _ _ _ _
  ·rename_i ds es
   have eH:A.in1.units+n < cLine:=by show A.units+1+n < cLine;omega
   obtain ⟨p,xs,rfl,h1,h2⟩:=qa ha
   obtain ⟨q,ys,rfl,h3,h4⟩:=qa hb
   cases ru;cases rv
   obtain ⟨ac,r1,t1,_⟩:=I.tuple h1
   obtain ⟨bL,r2,t2,_⟩:=I.tuple h3
   have l1:ac.toArray.size=ds.length:=by rw [size_toArray,← r1.length,h2.length]
   have l2:bL.toArray.size=es.length:=by rw [size_toArray,← r2.length,h4.length]
   have two:∀ j (g1:j < ac.toArray.size) (g2:j < bL.toArray.size),EqAt A.in1 s ac.toArray[j] bL.toArray[j] (deq (ds.getD j .non) (es.getD j .non))/\(deq (ds.getD j .non) (es.getD j .non)=false->RcLtAt A.in1 s ac.toArray[j] bL.toArray[j] (dl (ds.getD j .non) (es.getD j .non))):=λj g1 g2=>by
    obtain ⟨v1,q1,q2⟩:=h2.getU r1 g1
    obtain ⟨v2,q3,q4⟩:=h4.getU r2 g2
    have m1:ds.getD j .non∈ds:=by
     rw [getD_eq_getElem?_getD,getElem?_eq_getElem (by omega)]
     exact getElem_mem _
    have k1:=qV m1
    rw [dep] at hd
    exact ⟨(sH I n A.in1 eH _ _ _ _ _ _ (.inl (by omega)) q2 q4 q1 q3).2.1,λ_=>ih A.in1 eH _ _ _ _ _ _ (by omega) (Co ds es c j (by omega) (by omega)) q2 q4 q1 q3⟩
   have R1:=RcLtAt.tuples (A:=A) t1 t2 (by omega) two
   rw [l1,l2,BK ds es c] at R1
   rw [tJ]
   exact R1
end
end DL
namespace DL
open PySem PySem.W PySem.Spec PyProof.Rows L2
noncomputable def leD (a b:D):Bool:=!dl b a
noncomputable def sortD (ds:List D):List D:=ds.mergeSort leD
theorem Fa (a b c:D) (h1:leD a b=true) (h2:leD b c=true):leD a c=true:=by
 unfold leD at *
 simp only [not_eq_true'] at *
 exact uu a b c h1 h2
theorem FF (a b:D):(leD a b||leD b a)=true:=by
 unfold leD
 cases h:dl b a with
 | false=>rfl
 | true=>rw [Cn b a h];rfl
theorem tR (ds:List D):(sortD ds).Perm ds:=mergeSort_perm ds leD
theorem tz (ds:List D):(sortD ds).Pairwise λa b=>leD a b=true:=List.pairwise_mergeSort Fa FF ds
theorem wJ:∀ (l m:List D),l.Perm m->(l.Pairwise λa b=>leD a b=true)->(m.Pairwise λa b=>leD a b=true)->(∀ a∈l,∀ b∈l,leD a b=true->leD b a=true->a=b)->l=m
 | [],m,p,_,_,_=>by rw [List.nil_perm.mp p]
 | a::l,[],p,_,_,_=>by have:=p.length_eq;simp at this
 | a::l,b::m,p,h1,h2,an=>by
  have e:a=b:=by
   have ia:a∈b::m:=p.mem_iff.mp mem_cons_self
   have ib:b∈a::l:=p.mem_iff.mpr mem_cons_self
   rcases mem_cons.mp ia with h | h
   ·exact h
   ·rcases mem_cons.mp ib with h' | h'
    ·exact h'.symm
    ·exact an a mem_cons_self b ib ((pairwise_cons.mp h1).1 b h') ((pairwise_cons.mp h2).1 a h)
  subst e
  rw [wJ l m ((List.perm_cons a).mp p) (pairwise_cons.mp h1).2 (pairwise_cons.mp h2).2 λx hx y hy=>an x (mem_cons_of_mem _ hx) y (mem_cons_of_mem _ hy)]
noncomputable def permD (p:Array Nat) (ds:List D):List D:=p.toList.map λi=>ds.getD i .non
noncomputable def permV (p:Array Nat) (zs:List V):List V:=p.toList.map λi=>zs.getD i .non
noncomputable def cmAll (ds:List D):Bool:=ds.all λa=>ds.all λb=>cmB a b
theorem DI {ds:List D}{p:Array Nat} (hp:Pm ds.length p) (up:Up (λi j=>dl (ds.getD i .non) (ds.getD j .non)) p ds.length) (cm:cmAll ds=true):permD p ds=sortD ds:=by
 have pm:(permD p ds).Perm ds:=by
  have h1:p.toList.Perm (range ds.length):=by
   have:=Array.perm_iff_toList_perm.mp hp
   simpa using this
  have h2:=h1.map λi=>ds.getD i .non
  have h3:((range ds.length).map λi=>ds.getD i .non)=ds:=by
   refine List.ext_getElem (by simp) λi h1 h2=>?_
   simp [h2]
  rw [h3] at h2
  exact h2
 have eL:∀ a∈permD p ds,∀ b∈permD p ds,cmB a b=true:=λa ha b hb=>by
  have:=all_eq_true.mp cm a (pm.mem_iff.mp ha)
  exact all_eq_true.mp this b (pm.mem_iff.mp hb)
 refine wJ _ _ (pm.trans (tR ds).symm) ?_ (tz ds) λa ha b hb h1 h2=>?_
 ·rw [List.pairwise_iff_getElem]
  intro i j hi hj dj
  unfold permD at hi hj ⊢
  rw [length_map,length_toList,hp.size] at hi hj
  have:=up i j dj hj
  simp only [getElem_map,Array.getElem_toList]
  unfold gt at this
  rw [getD,dif_pos (by rw [hp.size];exact hj),getD,dif_pos (by rw [hp.size];exact hi)] at this
  unfold leD
  rw [not_eq_true']
  exact this
 ·have c:=eL a ha b hb
  refine v3 a b c ?_
  rw [uw a b c]
  unfold leD at h1 h2
  rw [h1,h2]
  rfl
section
variable {X:Cx}{U:List (Addr×Obj)}{Y:L2.St}{H:Hp}{s:Shared}{A:Around}
noncomputable def fstI:D->Bool
 | .tup (.int _::_)=>true
 | _=>false
noncomputable def fstT:D->Bool
 | .tup (.tup _::_)=>true
 | _=>false
noncomputable def isInt:D->Bool
 | .int _=>true
 | _=>false
theorem B5 (I:Inv X U Y H s){prog:Program}{w:World}{n:Nat}{b fin:Bool}{Q:Bool->Shared->Prop} (hu:A.units+n < cLine):∀ (ds es:List D) (xs ys:List V) (us vs:List Value) (i:Nat),IsA X.K H ds xs->IsA X.K H es ys->Vals xs us->Vals ys vs →
  depA ds<=n->cmA ds es=true->fin=decide (ds.length < es.length)->(b=true->i=0->∀ d e r r',ds=d::r->es=e::r'->isInt d=true/\isInt e=true)->Q (dlA ds es) s->KatLex prog w A b fin Q (us.zip vs) i s
 | [],es,xs,ys,us,vs,i,h1,h2,h3,h4,hd,c,hf,fl,q=>by
  have:=h1.nil_inv;subst this
  cases h3
  rw [List.zip_nil_left]
  refine kat_nil ?_
  rw [hf]
  cases es with
  | nil=>rw [vm] at q;exact q
  | cons e es=>rw [sX] at q;simpa using q
 | d::ds,[],xs,ys,us,vs,i,h1,h2,h3,h4,hd,c,hf,fl,q=>by
  have:=h2.nil_inv;subst this
  cases h4
  rw [List.zip_nil_right]
  refine kat_nil ?_
  rw [hf]
  rw [tK] at q
  simpa using q
 | d::ds,e::es,xs,ys,us,vs,i,h1,h2,h3,h4,hd,c,hf,fl,q=>by
  obtain ⟨x,xr,rfl,a1,a2⟩:=h1.cons_inv
  obtain ⟨y,yr,rfl,b1,b2⟩:=h2.cons_inv
  cases h3 with
  | cons r1 r2 =>
   cases h4 with
   | cons s1 s2 =>
    rename_i u mZ v m9
    rw [depA] at hd
    rw [cmA,and_eq_true] at c
    rw [ug] at q
    have eq:=(sH I n A hu d e x y u v (.inl (by omega)) a1 b1 r1 s1).2.1
    have lt:=Fn I n A hu d e x y u v (by omega) c.1 a1 b1 r1 s1
    have ed:=uw d e c.1
    rw [List.zip_cons_cons]
    refine kat_cons (eq prog w _ _ (kat_go (λh=>kat_yes ?_) λh=>kat_no ?_))
    ·refine B5 I hu ds es xr yr mZ m9 (i+1) a2 b2 r2 s2 (by omega) c.2 (by rw [hf];simp) (λ_ z=>by omega) ?_
     rw [h] at ed
     have ed:=ed.symm
     simp only [and_eq_true,not_eq_true'] at ed
     rw [ed.1,ed.2] at q
     simpa using q
    ·have q':Q (dl d e) s:=by
      rw [h] at ed
      cases h1:dl d e with
      | true=>rw [h1] at q;simpa using q
      | false =>
       rw [h1] at ed q
       cases h2:dl e d with
       | true=>rw [h2] at q;simpa using q
       | false=>rw [h2] at ed;cases ed
     by_cases z:b=true/\i=0
     ·obtain ⟨zb,zi⟩:=z
      obtain ⟨f1,f2⟩:=fl zb zi d e ds es rfl rfl
      subst zb;subst zi
      cases d<;>simp [isInt] at f1
      cases e<;>simp [isInt] at f2
      rw [pY a1] at r1
      rw [pY b1] at s1
      obtain ⟨t1,rfl⟩:=r1
      obtain ⟨t2,rfl⟩:=s1
      show wpAny _ _ (oneLt' true _ _) _ _ _
      rw [← keyLt'_oneType]
      rw [rX] at q'
      exact kat_lt_int q'
     ·have:(b&&i == 0)=false:=by
       cases b
       ·rfl
       ·simp at z ⊢
        exact z
      rw [this]
      exact kat_one _ _ (lt prog w _ _ q')
theorem at_k {ds:List D}{zs:List V}{vs:List Value} (h:IsA X.K H ds zs) (r:Vals zs vs){k:Nat} (hk:k < vs.length):∃ x,Is X.K H (ds.getD k .non) x/\RelV x (vs.getD k .none)/\ds.getD k .non∈ds/\zs[k]?=some x:=by
 have l1:=h.length
 have l2:=r.length
 have jr:k < ds.length:=by omega
 obtain ⟨x,e1,e2⟩:=h.get (getElem?_eq_getElem jr)
 obtain ⟨u,e3,e4⟩:=r.get e1
 refine ⟨x,?_,?_,?_,e1⟩
 ·rw [getD_eq_getElem?_getD,getElem?_eq_getElem jr];exact e2
 ·rw [getD_eq_getElem?_getD,e3];exact e4
 ·rw [getD_eq_getElem?_getD,getElem?_eq_getElem jr];exact getElem_mem _
theorem xn (I:Inv X U Y H s) (prog:Program) (w:World) (P:D->Bool) (T:Value) (hP:∀ d,P d=true->∃ f r,d=.tup (f::r)/\∀ x u,Is X.K H f x->RelV x u->Looks (model prog w) s.heap (typeOf u) T) :
  ∀ (ds:List D) (zs:List V) (vs:List Value),IsA X.K H ds zs->Vals zs vs->ds.all P=true->∃ fs,KatTups s.heap vs fs/\fs.length=vs.length/\∀ v∈fs,Looks (model prog w) s.heap (typeOf v) T
 | [],zs,vs,h,r,_=>by
  have:=h.nil_inv;subst this
  cases r
  exact ⟨[],KatTups.nil,rfl,λv hv=>nomatch hv⟩
 | d::ds,zs,vs,h,r,ok=>by
  obtain ⟨x,zr,rfl,h1,h2⟩:=h.cons_inv
  rw [all_cons,and_eq_true] at ok
  cases r with
  | cons r1 r2 =>
   obtain ⟨fs,k1,k2,k3⟩:=xn I prog w P T hP ds zr _ h2 r2 ok.2
   obtain ⟨f,aw,rfl,look⟩:=hP d ok.1
   obtain ⟨a,ys,rfl,g1,g2⟩:=qa h1
   cases r1
   obtain ⟨ac,q1,q2,_⟩:=I.tuple g1
   obtain ⟨y,yr,rfl,g3,g4⟩:=g2.cons_inv
   cases q1 with
   | cons q3 q4 =>
    obtain ⟨o,e1,e2,n,e3⟩:=q2
    refine ⟨_::fs,KatTups.cons e1 e2 e3 rfl k1,by simp [k2],λv hv=>?_⟩
    rcases mem_cons.mp hv with rfl | hv
    ·exact look y _ g3 q3
    ·exact k3 v hv
def SortOk (ds:List D):Prop:=ds.length < 64/\cmAll ds=true/\depA ds<=50/\(ds.all isInt=true\/ds.all fstI=true\/ds.all fstT=true)
theorem xu (hu:X.A.units+100 < cLine){l:Addr}{ds:List D}{zs:List V}{ac:List Value}{Q:VK} (I:Inv X U Y H s) (ha:IsA X.K H ds zs) (rv:Vals zs ac) (ok:SortOk ds)
  (col:∀ Q':List Value->Shared->Prop,(∀ h' tk,(∀ b o,s.heap.get? b=some o->h'.get? b=some o)->s.heap.objs.size<=h'.objs.size->Q' ac { s with heap:=h',toks:=tk })->wpAny (model X.prog X.w) X.A.in1 (collect (.ref l)) Q' X.xe s)
  (k:∀ l q,Pm ds.length q->permD q ds=sortD ds->H l=none->Q (.ref l) (upd H l (.lst (permV q zs)))):wpAny (model X.prog X.w) X.A (call (.builtin "sorted") [.ref l]) (EP X U Y Q) X.xe s:=by
 obtain ⟨gX,cm,dp,kd⟩:=ok
 have l1:=ha.length
 have l2:=rv.length
 have n1:ac.length=ds.length:=by omega
 have kQ:∀ i j,i < ac.length->j < ac.length->cmB (ds.getD i .non) (ds.getD j .non)=true:=λi j hi hj=>by
  obtain ⟨_,_,_,mi,_⟩:=at_k ha rv hi
  obtain ⟨_,_,_,mj,_⟩:=at_k ha rv hj
  exact all_eq_true.mp (all_eq_true.mp cm _ mi) _ mj
 have bu:∀ q h' tk D c,Pm ac.length q->Up (λi j=>dl (ds.getD i .non) (ds.getD j .non)) q ac.length->(∀ b o,s.heap.get? b=some o->h'.get? b=some o)->s.heap.objs.size<=D->h'.get? D=some (seqObj "list" (byP ac q).toArray c)->EP X U Y Q (.ref D) { s with heap:=h',toks:=tk }:=λq h' tk D c hp up keep above here=>by
  rw [n1] at hp up
  have hv:Vals (permV q zs) (byP ac q):=by
   refine zO (by simp [permV,byP]) λi x u e1 e2=>?_
   obtain ⟨j,f1,rfl⟩:=getMap e1
   obtain ⟨j',f2,rfl⟩:=getMap e2
   rw [f1] at f2
   cases f2
   have hj:j < ds.length:=by
    have h1:j∈q.toList:=mem_of_getElem? f1
    have h2:=(Array.perm_iff_toList_perm.mp hp).mem_iff.mp h1
    simpa using h2
   obtain ⟨x,_,e4,_,e5⟩:=at_k ha rv (k:=j) (by omega)
   rw [getD_eq_getElem?_getD,e5]
   exact e4
  refine ⟨.ref D,_,I.laid (t':=tk) keep above (o:=.lst (permV q zs)) ⟨?_,byP ac q,c,hv,here⟩,rfl,k D q hp (DI hp up cm) (I.hok.fresh above)⟩
  show (permV q zs).length<=sizeLine
  rw [permV,length_map,length_toList,hp.size,sizeLine_eq]
  omega
 have fV:∀ (b:Bool) (P:D->Bool),(∀ d,P d=true->∃ f r,d=.tup (f::r)/\(b=true->isInt f=true))->ds.all P=true->∀ h' tk i j C,(∀ b o,s.heap.get? b=some o->h'.get? b=some o)->i < ac.length->j < ac.length->C (dl (ds.getD i .non) (ds.getD j .non)) { s with heap:=h',toks:=tk } →
   wpAny (model X.prog X.w) X.A.in1.in1 (keyLt' (tuples' b) (ac.getD i Value.none) (ac.getD j Value.none)) C (λ_ _=>False) { s with heap:=h',toks:=tk }:=λb P hP all h' tk i j C keep hi hj hc=>by
  have I':Inv X U Y H { s with heap:=h',toks:=tk }:=I.kept (t':=tk) keep
  obtain ⟨x,a1,a2,a3,_⟩:=at_k ha rv hi
  obtain ⟨y,b1,b2,b3,_⟩:=at_k ha rv hj
  have cc:=kQ i j hi hj
  have dq:=qV a3
  obtain ⟨f1,r1,e1,g1⟩:=hP _ (all_eq_true.mp all _ a3)
  obtain ⟨f2,r2,e2,g2⟩:=hP _ (all_eq_true.mp all _ b3)
  rw [e1] at a1 cc hc dq
  rw [e2] at b1 cc hc
  obtain ⟨pa,xs,rfl,x1,x2⟩:=qa a1
  obtain ⟨pb,ys,rfl,y1,y2⟩:=qa b1
  generalize ac.getD i Value.none=ui at a2
  generalize ac.getD j Value.none=uj at b2
  cases a2;cases b2
  obtain ⟨us,q1,q2,_⟩:=I'.tuple x1
  obtain ⟨vs,q3,q4,_⟩:=I'.tuple y1
  obtain ⟨oa,m1,m2,na,m3⟩:=q2
  obtain ⟨ob,m4,m5,nb,m6⟩:=q4
  rw [tJ] at hc
  rw [cmB] at cc
  rw [dep] at dq
  refine kat_lt m1 m3 m4 m6 (B5 I' (n:=50) (by show X.A.units+1+1+50 < cLine;omega) _ _ xs ys _ _ 0 x2 y2 q1 q3 (by omega) cc ?_ (λzb _ d e rr ph z1 z2=>?_) hc)
  ·have:=x2.length;have:=y2.length;have:=q1.length;have:=q3.length
   simp only [size_toArray]
   congr 1
   apply propext
   constructor<;>intro _<;>omega
  ·cases z1;cases z2
   exact ⟨g1 zb,g2 zb⟩
 rcases kd with kd | kd | kd
 ·-- bz numbers
  have jt:∀ k,k < ac.length->∃ i t,ac.getD k Value.none=.int i t/\ds.getD k .non=.int i:=λk hk=>by
   obtain ⟨x,a1,a2,a3,_⟩:=at_k ha rv hk
   have:=all_eq_true.mp kd _ a3
   cases e:ds.getD k .non<;>rw [e] at this a1<;>simp [isInt] at this
   rw [pY a1] at a2
   obtain ⟨t,a2⟩:=a2
   exact ⟨_,t,a2,rfl⟩
  refine zd (κ:=oneType') (lt:=λi j=>dl (ds.getD i .non) (ds.getD j .non)) (by omega) (wc ds) col (λh' tk Q' keep two q=>?_) (λh' tk i j C keep hi hj hc=>?_) bu
  ·refine kas_kind (T:=.type "int") two (λv hv=>?_) (by decide) (by decide) q
   obtain ⟨k,hk,rfl⟩:=List.getElem_of_mem hv
   obtain ⟨i,t,e,_⟩:=jt k hk
   rw [getD_eq_getElem?_getD,getElem?_eq_getElem hk] at e
   change ac[k]=_ at e
   rw [e]
   exact Looks.now
  ·obtain ⟨a,t1,e1,f1⟩:=jt i hi
   obtain ⟨b,t2,e2,f2⟩:=jt j hj
   rw [f1,f2,rX] at hc
   rw [e1,e2]
   exact kat_lt_int hc
 ·-- tuples that begin with a bz number
  refine zd (κ:=tuples' true) (lt:=λi j=>dl (ds.getD i .non) (ds.getD j .non)) (by omega) (wc ds) col (λh' tk Q' keep two q=>?_) (λh' tk i j C keep hi hj hc=>fV true fstI (λd hd=>?_) kd h' tk i j C keep hi hj hc) bu
  ·have I':Inv X U Y H { s with heap:=h',toks:=tk }:=I.kept (t':=tk) keep
   obtain ⟨fs,k1,k2,k3⟩:=xn I' X.prog X.w fstI (.type "int") (λd hd=>by
    unfold fstI at hd
    split at hd
    ·refine ⟨_,_,rfl,λx u hx hr=>?_⟩
     rw [pY hx] at hr
     obtain ⟨t,rfl⟩:=hr
     exact Looks.now
    ·cases hd) ds zs ac ha rv kd
   exact kat_kind k1 (by omega) k3 (by decide) q
  ·unfold fstI at hd
   split at hd
   ·exact ⟨_,_,rfl,λ_=>rfl⟩
   ·cases hd
 ·-- tuples that begin with a tuple
  refine zd (κ:=tuples' false) (lt:=λi j=>dl (ds.getD i .non) (ds.getD j .non)) (by omega) (wc ds) col (λh' tk Q' keep two q=>?_) (λh' tk i j C keep hi hj hc=>fV false fstT (λd hd=>?_) kd h' tk i j C keep hi hj hc) bu
  ·have I':Inv X U Y H { s with heap:=h',toks:=tk }:=I.kept (t':=tk) keep
   obtain ⟨fs,k1,k2,k3⟩:=xn I' X.prog X.w fstT (.type "tuple") (λd hd=>by
    unfold fstT at hd
    split at hd
    ·refine ⟨_,_,rfl,λx u hx hr=>?_⟩
     obtain ⟨a,ys,rfl,g1,g2⟩:=qa hx
     cases hr
     obtain ⟨bL,q1,q2,_⟩:=I'.tuple g1
     obtain ⟨o,e1,e2,n,e3⟩:=q2
     have look:Looks (model X.prog X.w) h' (typeOf (.ref a)) o.cls:=(Looks.ld e1).andThen .now
     rw [e2] at look
     exact look
    ·cases hd) ds zs ac ha rv kd
   exact kat_kind k1 (by omega) k3 (by decide) q
  ·unfold fstT at hd
   split at hd
   ·exact ⟨_,_,rfl,λh=>by cases h⟩
   ·cases hd
theorem Fm (hu:X.A.units+100 < cLine):CallR X (.builtin "sorted") (λxs H Q=>∃ (p:Addr) (zs:List V) (ds:List D),xs=[.ref p]/\SqL X.K H p zs/\IsA X.K H ds zs/\SortOk ds/\∀ l q,Pm ds.length q->permD q ds=sortD ds->H l=none->Q (.ref l) (upd H l (.lst (permV q zs)))):=by
 intro U s Y H xs us Q I r h
 obtain ⟨p,zs,ds,rfl,hq,ha,ok,k⟩:=h
 obtain ⟨u,rfl,ru⟩:=vals1 r
 cases ru
 obtain ⟨ac,rv,t,hz⟩:=I.list hq
 have l1:=ha.length
 have l2:=rv.length
 have line:64<=sizeLine:=by rw [sizeLine_eq];decide
 refine xu hu I ha rv ok (λQ' q=>collect_list t.isList (q _ s.toks (λb o x=>?_) ?_) (by have:=ok.1;omega)) k
 ·exact (get?_update_other _ _ (Ne.symm (ne_of_lt (lt_size x)))).trans (get?_push_of_some _ x)
 ·rw [Heap.size_update,size_push']
  exact le_succ _
end
section
variable {X:Cx}{B:BB}{e:Expr}{pos:Pos}{kr:Nat}
noncomputable def sortF (ds:List D):Option (List D):=match ds with
 | [.lst xs]=>if xs.length < 64/\cmAll xs=true/\depA xs<=50/\(xs.all isInt=true\/xs.all fstI=true\/xs.all fstT=true) then some (sortD xs) else none
 | _=>none
theorem IsA.perm {K:PySem.W.Frag}{I:Hp}{ds:List D}{zs:List V}{q:Array Nat} (h:IsA K I ds zs) (hp:Pm ds.length q):IsA K I (permD q ds) (permV q zs):=by
 have low:∀ j∈q.toList,j < ds.length:=λj hj=>by
  have:=(Array.perm_iff_toList_perm.mp hp).mem_iff.mp hj
  simpa using this
 unfold permD permV
 clear hp
 generalize q.toList=js at low
 induction js with
 | nil=>exact IsA.nil
 | cons j js ih =>
  rw [map_cons,map_cons]
  refine IsA.cons ?_ (ih λi hi=>low i (mem_cons_of_mem _ hi))
  have hj:=low j mem_cons_self
  obtain ⟨x,e1,e2⟩:=h.get (getElem?_eq_getElem hj)
  rw [getD_eq_getElem?_getD,getD_eq_getElem?_getD,e1,getElem?_eq_getElem hj]
  exact e2
theorem AH {p:Pos}{t:M (List D)} (hr:Room kr X.A) (hg:Gl X "sorted") (hm:X.mg "sorted"=none) (ha:AD X B [e] t) (he:starEach [e] X.env=(false,eval e X.env)::starEach [] X.env:=by rfl) (aA:(backTo pos (starEach [] X.env)).any (·.1)=false:=by rfl) :
  EO X B (.Call (.Name "sorted" p) [e] [] pos) (fn1 sortF t):=J8 (Fm (hu100 hr)) (λds d e B G I H Y Γ xs Q r h k=>by
 unfold sortF at e
 split at e
 ·obtain ⟨ok,rfl⟩:=ql e
  obtain ⟨x,rfl,hx⟩:=h.one
  obtain ⟨q,zs,rfl,h3,h4⟩:=qi hx
  refine ⟨q,zs,_,rfl,(Same.rdK r.iH h3).sq,h4.mono r.iH,ok,λl q' hp es hl=>?_⟩
  refine k.new r hl ?_
  rw [← es]
  exact h4.perm hp
 ·cases e) hg hm boot_sorted ha (by decide) (by decide) he aA
end
end DL
namespace DL
open PySem PySem.SetTable
def Ris (xs:Array Nat):Prop:=∀ i j (hi:i < xs.size) (hj:j < xs.size),i < j->xs[i] < xs[j]
theorem xZ {xs:Array Nat} (R:Ris xs) (j:Nat):∀ (f lo hi:Nat),hi<=xs.size->lo<=hi->hi - lo<=f->(∀ i (h:i < xs.size),i < lo->xs[i] < j)->(∀ i (h:i < xs.size),hi<=i->j<=xs[i]) →
  (below.go xs j f lo hi<=xs.size/\(∀ i (h:i < xs.size),i < below.go xs j f lo hi->xs[i] < j)/\∀ i (h:i < xs.size),below.go xs j f lo hi<=i->j<=xs[i])
 | 0,lo,hi,h1,h2,h3,h4,h5=>by
  rw [below.go]
  exact ⟨by omega,h4,λi h x=>h5 i h (by omega)⟩
 | f+1,lo,hi,h1,h2,h3,h4,h5=>by
  rw [below.go]
  split
  ·have hm:(lo+hi) / 2 < xs.size:=by omega
   have e:xs.getD ((lo+hi) / 2) j=xs[(lo+hi) / 2]:=by rw [getD,dif_pos hm];rfl
   dsimp only
   rw [e]
   split
   ·rename_i lt
    refine xZ R j f ((lo+hi) / 2+1) hi h1 (by omega) (by omega) (λi h x=>?_) h5
    by_cases z:i=(lo+hi) / 2
    ·subst z;exact lt
    ·exact Nat.lt_trans (R i _ h hm (by omega)) lt
   ·rename_i pi
    refine xZ R j f lo ((lo+hi) / 2) (by omega) (by omega) (by omega) h4 λi h x=>?_
    by_cases z:i=(lo+hi) / 2
    ·subst z;omega
    ·have:=R _ i hm h (by omega);omega
  ·exact ⟨by omega,h4,λi h x=>h5 i h (by omega)⟩
theorem uL {xs:Array Nat} (R:Ris xs) (j:Nat):below xs j<=xs.size/\(∀ i (h:i < xs.size),i < below xs j->xs[i] < j)/\∀ i (h:i < xs.size),below xs j<=i->j<=xs[i] :=
 xZ R j xs.size 0 xs.size (le_refl _) (zero_le _) (le_refl _) (λi h x=>by omega) λi h x=>by omega
theorem Dh {xs:Array Nat} (R:Ris xs){i:Nat} (h:i < xs.size):below xs xs[i]=i:=by
 obtain ⟨b1,b2,b3⟩:=uL R xs[i]
 rcases lt_trichotomy (below xs xs[i]) i with l | l | l
 ·have:=b3 (below xs xs[i]) (by omega) (le_refl _)
  have:=R _ i (by omega) h l
  omega
 ·exact l
 ·have:=b2 i h l
  omega
section
variable {t:SetTable}
theorem CY (R:Ris t.place){i:Nat} (h:i < t.place.size):t.slot t.place[i]=.live i:=by
 unfold slot
 dsimp only
 rw [Dh R h,Array.getElem?_eq_getElem h]
 simp
theorem E1 (R:Ris t.place) (hd:t.dummies=#[]){j:Nat} (h:j∉t.place):t.slot j=.empty:=by
 unfold slot
 dsimp only
 have e:¬ (t.place[below t.place j]? == some j)=true:=by
  intro z
  have z:t.place[below t.place j]?=some j:=by simpa using z
  exact h (Array.mem_of_getElem? z)
 rw [if_neg e]
 unfold has
 rw [hd]
 simp
noncomputable def hd (m i p:Nat):Probe:=⟨i,runEnd m i - i,i,p,none⟩
noncomputable def adv (m:Nat) (p:Probe):Probe:=match p with
 | ⟨j,k+1,i,q,d⟩=>⟨j+1,k,i,q,d⟩
 | ⟨_,0,i,q,d⟩=>⟨(leap m i q).1,runEnd m (leap m i q).1 - (leap m i q).1,(leap m i q).1,(leap m i q).2,d⟩
noncomputable def pth (m:Nat) (h:Int):Nat->Probe
 | 0=>hd m (bits h % (m+1)) (bits h)
 | k+1=>adv m (pth m h k)
theorem CC (h:Int) (k:Nat):t.advance (pth t.mask h k)=pth t.mask h (k+1):=by
 rw [pth]
 rcases pth t.mask h k with ⟨j,more,i,q,d⟩
 cases more<;>rfl
theorem Cr (m:Nat) (h:Int):∀ k,(pth m h k).dummy=none
 | 0=>rfl
 | k+1=>by
  have ih:=Cr m h k
  rw [pth]
  revert ih
  rcases pth m h k with ⟨j,more,i,q,d⟩
  intro ih
  cases more<;>exact ih
noncomputable def sl (m:Nat) (h:Int) (k:Nat):Nat:=(pth m h k).j
theorem yj {m:Nat}{h:Int}{c i p:Nat} (e:pth m h c=hd m i p):∀ d,d<=runEnd m i - i->pth m h (c+d)=⟨i+d,runEnd m i - i - d,i,p,none⟩
 | 0,_=>e
 | d+1,cx=>by
  have ih:=yj e d (by omega)
  rw [← Nat.add_assoc,pth,ih]
  obtain ⟨k,hk⟩:∃ k,runEnd m i - i - d=k+1:=⟨runEnd m i - i - d - 1,by omega⟩
  rw [hk,show runEnd m i - i - (d+1)=k by omega]
  rfl
theorem zu {m:Nat}{h:Int}{c i p:Nat} (e:pth m h c=hd m i p):pth m h (c+(runEnd m i - i)+1)=hd m (leap m i p).1 (leap m i p).2:=by
 have:=yj e (runEnd m i - i) (le_refl _)
 rw [pth,this,Nat.sub_self]
 rfl
theorem GT (m i:Nat):runEnd m i - i<=9:=by
 unfold runEnd
 split<;>omega
noncomputable def lp (m:Nat):Nat->Nat->Nat->Nat×Nat
 | 0,i,p=>(i,p)
 | n+1,i,p=>lp m n (leap m i p).1 (leap m i p).2
theorem zz {m:Nat}{h:Int}:∀ (n c i p:Nat),pth m h c=hd m i p->∃ c',c<=c'/\c'<=c+10*n/\pth m h c'=hd m (lp m n i p).1 (lp m n i p).2
 | 0,c,i,p,e=>⟨c,le_refl _,by omega,e⟩
 | n+1,c,i,p,e=>by
  obtain ⟨c',h1,h2,h3⟩:=zz n _ _ _ (zu e)
  have:=GT m i
  exact ⟨c',by omega,by omega,h3⟩
theorem u4 (m:Nat):∀ (a b i p:Nat),lp m (a+b) i p=lp m b (lp m a i p).1 (lp m a i p).2
 | 0,b,i,p=>by rw [zero_add];rfl
 | a+1,b,i,p=>by rw [Nat.succ_add,lp,u4 m a b];rfl
theorem yR (m:Nat):∀ (n i p:Nat),(lp m n i p).2=p / 32 ^ n
 | 0,i,p=>by simp [lp]
 | n+1,i,p=>by
  rw [lp,yR m n]
  show (p / 32) / 32 ^ n=_
  rw [Nat.div_div_eq_div_mul,Nat.pow_succ,Nat.mul_comm]
theorem zl {m:Nat}:∀ (n i p:Nat),i < m+1->(lp m n i p).1 < m+1
 | 0,i,p,h=>h
 | n+1,i,p,h=>by
  rw [lp]
  exact zl n _ _ (mod_lt _ (succ_pos _))
theorem GW (h:Int):bits h < 2 ^ 64:=by
 unfold bits
 have h1:=emod_lt_of_pos h (b:=2 ^ 64) (by decide)
 have h2:=emod_nonneg h (b:=2 ^ 64) (by decide)
 omega
def Round (m:Nat):Prop:=∀ i,i < m+1->∀ j,j < m+1->∃ n,n < m+1/\(lp m n i 0).1=j
theorem round7:Round 7:=by
 have:∀ i,i < 8->∀ j,j < 8->∃ n,n < 8/\(lp 7 n i 0).1=j:=by decide +kernel
 exact this
theorem round31:Round 31:=by
 have:∀ i,i < 32->∀ j,j < 32->∃ n,n < 32/\(lp 31 n i 0).1=j:=by decide +kernel
 exact this
theorem Cs {m:Nat} (R:Round m) (h:Int){j:Nat} (hj:j < m+1):∃ n,n < m+14/\(lp m n (bits h % (m+1)) (bits h)).1=j:=by
 have p0:(lp m 13 (bits h % (m+1)) (bits h)).2=0:=by
  rw [yR]
  refine Nat.div_eq_of_lt (lt_of_lt_of_le (GW h) ?_)
  decide
 have l0:=zl (m:=m) 13 (bits h % (m+1)) (bits h) (mod_lt _ (succ_pos _))
 obtain ⟨n,h1,h2⟩:=R _ l0 j hj
 refine ⟨13+n,by omega,?_⟩
 rw [u4,p0]
 exact h2
theorem Fg {m:Nat} (R:Round m) (h:Int){j:Nat} (hj:j < m+1):∃ k,k < 10*(m+14)/\sl m h k=j:=by
 obtain ⟨n,h1,h2⟩:=Cs R h hj
 obtain ⟨c,h3,h4,h5⟩:=zz (m:=m) (h:=h) n 0 _ _ rfl
 refine ⟨c,by omega,?_⟩
 unfold sl
 rw [h5]
 exact h2
end
noncomputable def orb (m:Nat):Nat->Nat->List Nat
 | 0,_=>[]
 | k+1,i=>i::orb m k (leap m i 0).1
theorem EH (m i:Nat):(leap m i 0).2=0:=by
 show 0 / 32=0
 rfl
theorem KI (m n i:Nat):lp m (n+1) i 0=lp m n (leap m i 0).1 0:=by
 rw [lp,EH]
theorem At (m n i:Nat):(lp m n i 0).2=0:=by rw [yR];simp
theorem Bk (m:Nat):∀ (k i n:Nat),n < k->(orb m k i)[n]?=some (lp m n i 0).1
 | 0,_,_,h=>by omega
 | k+1,i,0,_=>rfl
 | k+1,i,n+1,h=>by
  rw [orb,List.getElem?_cons_succ,Bk m k _ n (by omega),KI]
theorem DZ {m k i j:Nat} (h:j∈orb m k i) (hl:(orb m k i).length=k):∃ n,n < k/\(lp m n i 0).1=j:=by
 obtain ⟨n,hn,e⟩:=List.getElem_of_mem h
 refine ⟨n,by omega,?_⟩
 have:=Bk m k i n (by omega)
 rw [getElem?_eq_getElem hn,e] at this
 exact (Option.some.inj this).symm
theorem zL (m:Nat):∀ (k i:Nat),(orb m k i).length=k
 | 0,_=>rfl
 | k+1,i=>by rw [orb,length_cons,zL m k]
theorem round127:Round 127:=by
 have all:∀ j,j < 128->∃ n,n < 128/\(lp 127 n 0 0).1=j:=λj hj=>by
  have c:∀ j,j < 128->j∈orb 127 128 0:=by decide +kernel
  exact DZ (c j hj) (zL _ _ _)
 have turn:(lp 127 128 0 0).1=0:=by decide +kernel
 intro i hi j hj
 obtain ⟨a,ha,ea⟩:=all i hi
 obtain ⟨b,hb,eb⟩:=all j hj
 have fW:∀ n,lp 127 n i 0=lp 127 (a+n) 0 0:=λn=>by rw [u4,ea,At]
 rcases lt_or_ge b a with z | z
 ·refine ⟨b+128 - a,by omega,?_⟩
  rw [fW,show a+(b+128 - a)=128+b by omega,u4,turn,At,eb]
 ·exact ⟨b - a,by omega,by rw [fW,show a+(b - a)=b by omega,eb]⟩
noncomputable def hA (es:Array (Int×Value)) (i:Nat):Int:=(es[i]?.map (·.1)).getD 0
theorem AI {es:Array (Int×Value)}{i:Nat} (h:i < es.size):hA es i=es[i].1:=by
 unfold hA
 rw [Array.getElem?_eq_getElem h]
 rfl
structure TabOk (t:SetTable) (es:Array (Int×Value)):Prop where
 nd:t.dummies=#[]
 ris:Ris t.place
 sz:t.place.size=es.size
 low:∀ i (h:i < t.place.size),t.place[i]<=t.mask
 few:t.place.size<=60/\(t.mask=127\/(t.mask=31/\t.place.size<=18)\/(t.mask=7/\t.place.size<=4))
 pl:t.plain=true
 reach:∀ i (h:i < es.size) (h':i < t.place.size),∃ k,sl t.mask es[i].1 k=t.place[i]/\∀ k',k' < k->sl t.mask es[i].1 k'∈t.place
theorem wg:∀ (n:Nat) (l:List Nat),(∀ j,j < n->j∈l)->n<=l.length
 | 0,_,_=>zero_le _
 | n+1,l,h=>by
  have:=wg n (l.erase n) λj hj=>(List.mem_erase_of_ne (by omega)).mpr (h j (by omega))
  rw [List.length_erase_of_mem (h n (by omega))] at this
  have:0 < l.length:=List.length_pos_of_mem (h n (by omega))
  omega
section
variable {t:SetTable}{es:Array (Int×Value)}
theorem TabOk.round (T:TabOk t es):Round t.mask:=by
 rcases T.few.2 with h | h | h
 ·rw [h];exact round127
 ·rw [h.1];exact round31
 ·rw [h.1];exact round7
theorem TabOk.free (T:TabOk t es) (h:Int):∃ K,K < 10*(t.mask+14)/\sl t.mask h K∉t.place/\∀ k,k < K->sl t.mask h k∈t.place:=by
 have ex:∃ k,k < 10*(t.mask+14)/\sl t.mask h k∉t.place:=by
  apply byContradiction
  intro no
  have:t.mask+1<=t.place.toList.length:=wg (t.mask+1) _ λj hj=>by
   obtain ⟨k,k1,k2⟩:=Fg T.round h hj
   apply byContradiction
   intro nj
   exact no ⟨k,k1,by rw [k2];simpa using nj⟩
  rw [length_toList] at this
  have:=T.few
  omega
 obtain ⟨k,k1,k2⟩:=ex
 induction k using Nat.strongRecOn with
 | ind k ih =>
  by_cases z:∃ k',k' < k/\sl t.mask h k'∉t.place
  ·obtain ⟨k',a,b⟩:=z
   exact ih k' a (by omega) b
  ·refine ⟨k,k1,k2,λk' cZ=>?_⟩
   apply byContradiction
   intro nj
   exact z ⟨k',cZ,nj⟩
theorem Am {m i:Nat} (h:i<=m):i+(runEnd m i - i)<=m:=by
 unfold runEnd
 split<;>omega
theorem u0 (m:Nat) (h:Int):∀ k,(pth m h k).j+(pth m h k).more<=m/\(pth m h k).i<=m
 | 0=>by
  have:bits h % (m+1)<=m:=Nat.le_of_lt_succ (mod_lt _ (succ_pos _))
  exact ⟨Am this,this⟩
 | k+1=>by
  have ih:=u0 m h k
  rw [pth]
  revert ih
  rcases pth m h k with ⟨j,more,i,q,d⟩
  intro ih
  cases more with
  | zero =>
   have:(leap m i q).1<=m:=Nat.le_of_lt_succ (mod_lt _ (succ_pos _))
   exact ⟨Am this,this⟩
  | succ more =>
   dsimp only at ih
   exact ⟨by show j+1+more<=m;omega,ih.2⟩
theorem HV {xs:Array Nat}{j:Nat} (h:j∈xs):∃ i,∃ h:i < xs.size,xs[i]=j:=by
 obtain ⟨i,hi,e⟩:=Array.getElem_of_mem h
 exact ⟨i,hi,e⟩
theorem BA (T:TabOk t es){h:Int}{K:Nat} (hK:sl t.mask h K∉t.place) (hk:∀ k,k < K->sl t.mask h k∈t.place):∀ (f k:Nat),k<=K->K - k < f →
  (∃ k' i,∃ hi:i < es.size,∃ ba:i < t.place.size,k<=k'/\k' < K/\t.place[i]=sl t.mask h k'/\es[i].1=h/\probe.go t (hA es) h f (pth t.mask h k)=some (.candidate (sl t.mask h k') i (pth t.mask h (k'+1))) ∧
   ∀ bg,k<=bg->bg < k'->∀ j (hj:j < es.size) (bf:j < t.place.size),t.place[j]=sl t.mask h bg->es[j].1≠h) ∨
  (probe.go t (hA es) h f (pth t.mask h k)=some (.empty (sl t.mask h K) none)/\∀ bg,k<=bg->bg < K->∀ j (hj:j < es.size) (bf:j < t.place.size),t.place[j]=sl t.mask h bg->es[j].1≠h)
 | 0,k,h1,h2=>by omega
 | f+1,k,h1,h2=>by
  by_cases z:k=K
  ·subst z
   right
   refine ⟨?_,λbg a b=>by omega⟩
   rw [probe.go,show (pth t.mask h k).j=sl t.mask h k from rfl,E1 T.ris T.nd hK,Cr]
  ·obtain ⟨i,hi,e⟩:=HV (hk k (by omega))
   have cY:i < es.size:=by rw [← T.sz];exact hi
   have st:t.slot (pth t.mask h k).j=.live i:=by
    rw [show (pth t.mask h k).j=t.place[i] from e.symm]
    exact CY T.ris hi
   have only:∀ j (bf:j < t.place.size),t.place[j]=sl t.mask h k->j=i:=λj bf ej=>by
    rcases lt_trichotomy j i with l | l | l
    ·have:=T.ris j i bf hi l;omega
    ·exact l
    ·have:=T.ris i j hi bf l;omega
   by_cases same:es[i].1=h
   ·left
    refine ⟨k,i,cY,hi,le_refl _,by omega,e,same,?_,λbg a b=>by omega⟩
    rw [probe.go,st]
    dsimp only
    rw [AI cY,same,if_pos (by simp),CC]
    rfl
   ·have go:probe.go t (hA es) h (f+1) (pth t.mask h k)=probe.go t (hA es) h f (pth t.mask h (k+1)):=by
     rw [probe.go,st]
     dsimp only
     rw [AI cY,if_neg (by simpa using same),CC]
    rw [go]
    have here:∀ j (hj:j < es.size) (bf:j < t.place.size),t.place[j]=sl t.mask h k->es[j].1≠h:=λj hj bf ej=>by
     have:=only j bf ej
     subst this
     exact same
    rcases BA T hK hk f (k+1) (by omega) (by omega) with ⟨k',i',a1,a2,a3,a4,a5,a6,a7,a8⟩ | ⟨a1,a2⟩
    ·refine .inl ⟨k',i',a1,a2,by omega,a4,a5,a6,a7,λbg b1 b2 j hj bf ej=>?_⟩
     by_cases z':bg=k
     ·subst z';exact here j hj bf ej
     ·exact a8 bg (by omega) b2 j hj bf ej
    ·refine .inr ⟨a1,λbg b1 b2 j hj bf ej=>?_⟩
     by_cases z':bg=k
     ·subst z';exact here j hj bf ej
     ·exact a2 bg (by omega) b2 j hj bf ej
theorem sE {α:Type}{xs:Array α}{p:Nat} (hp:p<=xs.size) (x:α) (i:Nat):(insertAt xs p x)[i]?=if i < p then xs[i]? else if i=p then some x else xs[i - 1]?:=by
 unfold insertAt
 rw [Array.getElem?_append,Array.size_push,size_extract]
 have e:min p xs.size - 0=p:=by omega
 rw [e]
 by_cases h1:i < p
 ·rw [if_pos (by omega),if_pos h1,Array.getElem?_push,size_extract,e,if_neg (by omega),Array.getElem?_extract,if_pos (by omega),zero_add]
 ·rw [if_neg h1]
  by_cases h2:i=p
  ·rw [if_pos (by omega),if_pos h2,Array.getElem?_push,size_extract,e,if_pos h2]
  ·rw [if_neg (by omega),if_neg h2,Array.getElem?_extract]
   by_cases h3:i - (p+1) < min xs.size xs.size - p
   ·rw [if_pos h3]
    congr 1
    omega
   ·rw [if_neg h3]
    symm
    rw [getElem?_eq_none]
    omega
theorem yS {α:Type}{xs:Array α}{p:Nat} (hp:p<=xs.size) (x:α):(insertAt xs p x).size=xs.size+1:=by
 unfold insertAt
 rw [Array.size_append,Array.size_push,size_extract,size_extract]
 omega
theorem B2 {α:Type}{xs:Array α}{p:Nat} (hp:p<=xs.size) (x y:α):y∈insertAt xs p x↔y=x\/y∈xs:=by
 constructor
 ·intro h
  obtain ⟨i,e⟩:=mem_iff_getElem?.mp h
  rw [sE hp] at e
  split at e
  ·exact .inr (Array.mem_of_getElem? e)
  ·split at e
   ·cases e;exact .inl rfl
   ·exact .inr (Array.mem_of_getElem? e)
 ·rintro (rfl | h)
  ·refine mem_iff_getElem?.mpr ⟨p,?_⟩
   rw [sE hp,if_neg (by omega),if_pos rfl]
  ·obtain ⟨i,e⟩:=mem_iff_getElem?.mp h
   by_cases z:i < p
   ·exact mem_iff_getElem?.mpr ⟨i,by rw [sE hp,if_pos z];exact e⟩
   ·exact mem_iff_getElem?.mpr ⟨i+1,by rw [sE hp,if_neg (by omega),if_neg (by omega)];exact e⟩
theorem DK (T:TabOk t es){h:Int}{x:Value}{K:Nat} (hK:sl t.mask h K∉t.place) (hk:∀ k,k < K->sl t.mask h k∈t.place) :
  let q:=t.put (sl t.mask h K)
  q.1.dummies=#[]/\Ris q.1.place/\q.1.place.size=(insertAt es q.2 (h,x)).size/\(∀ i (h:i < q.1.place.size),q.1.place[i]<=q.1.mask)/\q.1.mask=t.mask/\q.1.plain=t.plain/\q.1.led=t.led/\q.1.moves=t.moves/\q.1.place.size=t.place.size+1/\q.2<=es.size ∧
   (∀ i (h1:i < (insertAt es q.2 (h,x)).size) (h2:i < q.1.place.size),∃ k,sl q.1.mask (insertAt es q.2 (h,x))[i].1 k=q.1.place[i]/\∀ k',k' < k->sl q.1.mask (insertAt es q.2 (h,x))[i].1 k'∈q.1.place):=by
 intro q
 obtain ⟨b1,b2,b3⟩:=uL T.ris (sl t.mask h K)
 have q2:q.2=below t.place (sl t.mask h K):=rfl
 have q1:q.1.place=insertAt t.place (below t.place (sl t.mask h K)) (sl t.mask h K):=rfl
 have hp:q.2<=es.size:=by rw [q2,← T.sz];exact b1
 have nh:has t.dummies (sl t.mask h K)=false:=by rw [T.nd];rfl
 have qd:q.1.dummies=#[]:=by
  show (if has t.dummies (sl t.mask h K)=true then _ else t.dummies)=_
  rw [nh,if_neg Bool.false_ne_true];exact T.nd
 have get:∀ i (h2:i < q.1.place.size),(i < q.2/\∃ hi:i < t.place.size,q.1.place[i]=t.place[i])\/(i=q.2/\q.1.place[i]=sl t.mask h K)\/(q.2 < i/\∃ hi:i - 1 < t.place.size,q.1.place[i]=t.place[i - 1]):=λi h2=>by
  have e:=sE (x:=sl t.mask h K) b1 i
  rw [← q1,← q2,Array.getElem?_eq_getElem h2] at e
  by_cases z1:i < q.2
  ·rw [if_pos z1] at e
   obtain ⟨hi,e⟩:=Array.getElem?_eq_some_iff.mp e.symm
   exact .inl ⟨z1,hi,e.symm⟩
  ·rw [if_neg z1] at e
   by_cases z2:i=q.2
   ·rw [if_pos z2] at e
    exact .inr (.inl ⟨z2,Option.some.inj e⟩)
   ·rw [if_neg z2] at e
    obtain ⟨hi,e⟩:=Array.getElem?_eq_some_iff.mp e.symm
    exact .inr (.inr ⟨by omega,hi,e.symm⟩)
 have sz:q.1.place.size=t.place.size+1:=by rw [q1];exact yS b1 _
 have ne:∀ i (hi:i < t.place.size),t.place[i]≠sl t.mask h K:=λi hi z=>hK (by rw [← z];exact Array.getElem_mem hi)
 refine ⟨qd,?_,by rw [sz,yS hp,T.sz],?_,rfl,rfl,rfl,rfl,sz,hp,?_⟩
 ·intro i j hi hj lt
  rcases get i hi with ⟨a1,a2,a3⟩ | ⟨a1,a3⟩ | ⟨a1,a2,a3⟩<;>rcases get j hj with ⟨c1,c2,c3⟩ | ⟨c1,c3⟩ | ⟨c1,c2,c3⟩
  ·rw [a3,c3];exact T.ris i j a2 c2 lt
  ·rw [a3,c3];exact b2 i a2 (by omega)
  ·rw [a3,c3]
   have:=b2 i a2 (by omega)
   have:=b3 (j - 1) c2 (by omega)
   omega
  ·omega
  ·omega
  ·rw [a3,c3]
   have:=b3 (j - 1) c2 (by omega)
   have:=ne (j - 1) c2
   omega
  ·omega
  ·omega
  ·rw [a3,c3];exact T.ris (i - 1) (j - 1) a2 c2 (by omega)
 ·intro i hi
  show _<=t.mask
  rcases get i hi with ⟨a1,a2,a3⟩ | ⟨a1,a3⟩ | ⟨a1,a2,a3⟩
  ·rw [a3];exact T.low _ _
  ·rw [a3];have:=(u0 t.mask h K).1;unfold sl;omega
  ·rw [a3];exact T.low _ _
 ·intro i h1 h2
  have dk:∀ y,y∈t.place->y∈q.1.place:=λy hy=>by rw [q1];exact (B2 b1 _ _).mpr (.inr hy)
  have e:=sE (x:=(h,x)) hp i
  rw [Array.getElem?_eq_getElem h1] at e
  show ∃ k,sl t.mask _ k=_/\∀ k',k' < k->sl t.mask _ k'∈_
  rcases get i h2 with ⟨a1,a2,a3⟩ | ⟨a1,a3⟩ | ⟨a1,a2,a3⟩
  ·rw [if_pos a1] at e
   obtain ⟨hi,e⟩:=Array.getElem?_eq_some_iff.mp e.symm
   obtain ⟨k,k1,k2⟩:=T.reach i hi a2
   rw [← e,a3]
   exact ⟨k,k1,λk' cZ=>dk _ (k2 k' cZ)⟩
  ·rw [if_neg (by omega),if_pos a1] at e
   rw [Option.some.inj e,a3]
   exact ⟨K,rfl,λk' cZ=>dk _ (hk k' cZ)⟩
  ·rw [if_neg (by omega),if_neg (by omega)] at e
   obtain ⟨hi,e⟩:=Array.getElem?_eq_some_iff.mp e.symm
   obtain ⟨k,k1,k2⟩:=T.reach (i - 1) hi a2
   rw [← e,a3]
   exact ⟨k,k1,λk' cZ=>dk _ (k2 k' cZ)⟩
end
noncomputable def tak (o:Array (Option Nat)) (j:Nat):Bool:=(o.getD j (some 0)).isSome
theorem B1 {m:Nat}{o:Array (Option Nat)}{h:Int}:∀ (f c i p:Nat),pth m h c=hd m i p →
  (∃ k,c<=k/\layClean.free m o f i p=some (sl m h k)/\tak o (sl m h k)=false/\∀ k',c<=k'->k' < k->tak o (sl m h k')=true)\/(∀ n,n < f->tak o (lp m n i p).1=true)
 | 0,c,i,p,e=>.inr λn h=>by omega
 | f+1,c,i,p,e=>by
  have run:=λd cx=>yj e d cx
  have bi:∀ d,d<=runEnd m i - i->sl m h (c+d)=i+d:=λd cx=>by unfold sl;rw [run d cx]
  have up:i<=runEnd m i:=by unfold runEnd;split<;>omega
  rw [layClean.free]
  cases hf:(range (runEnd m i+1 - i)).find? λk=>(o.getD (i+k) (some 0)).isNone with
  | some d =>
   obtain ⟨d1,d2,d3⟩:=List.find?_range_eq_some.mp hf
   rw [mem_range] at d2
   left
   refine ⟨c+d,by omega,?_,?_,λk' a b=>?_⟩
   ·dsimp only
    rw [bi d (by omega)]
   ·rw [bi d (by omega)]
    unfold tak
    cases x:o.getD (i+d) (some 0) with
    | none=>rfl
    | some v=>rw [x] at d1;cases d1
   ·obtain ⟨d',rfl⟩:∃ d',k'=c+d':=⟨k' - c,by omega⟩
    rw [bi d' (by omega)]
    have:=d3 d' (by omega)
    unfold tak
    cases x:o.getD (i+d') (some 0) with
    | none=>rw [x] at this;cases this
    | some v=>rfl
  | none =>
   have no:=List.find?_range_eq_none.mp hf
   have all:∀ k',c<=k'->k' < c+(runEnd m i - i)+1->tak o (sl m h k')=true:=λk' a b=>by
    obtain ⟨d',rfl⟩:∃ d',k'=c+d':=⟨k' - c,by omega⟩
    rw [bi d' (by omega)]
    have:=no d' (by omega)
    unfold tak
    cases x:o.getD (i+d') (some 0) with
    | none=>rw [x] at this;cases this
    | some v=>rfl
   dsimp only
   rcases B1 (o:=o) f _ _ _ (zu e) with ⟨k,k1,k2,k3,k4⟩ | aw
   ·left
    refine ⟨k,by omega,k2,k3,λk' a b=>?_⟩
    by_cases z:k' < c+(runEnd m i - i)+1
    ·exact all k' a z
    ·exact k4 k' (by omega) b
   ·right
    intro n hn
    cases n with
    | zero =>
     have:=all c (le_refl _) (by omega)
     rw [← Nat.add_zero c,bi 0 (by omega)] at this
     exact this
    | succ n =>
     rw [lp]
     exact aw n (by omega)
theorem u5:∀ (k:Nat) (l:List Nat),l.Nodup->(∀ x∈l,x < k)->l.length<=k
 | 0,l,_,h=>by
  cases l with
  | nil=>exact le_refl _
  | cons x l=>exact absurd (h x mem_cons_self) (Nat.not_lt_zero _)
 | k+1,l,nd,h=>by
  by_cases z:k∈l
  ·have:=u5 k (l.erase k) (nd.erase k) λx hx=>by
    have h1:=h x (List.mem_of_mem_erase hx)
    have h2:x≠k:=λe=>by
     subst e
     exact (List.Nodup.not_mem_erase nd) hx
    omega
   rw [List.length_erase_of_mem z] at this
   omega
  ·have:=u5 k l nd λx hx=>by
    have h1:=h x hx
    have h2:x≠k:=λe=>z (e▸hx)
    omega
   omega
structure Laid (m:Nat) (hs:List Int) (o:Array (Option Nat)) (k:Nat):Prop where
 sz:o.size=m+1
 old:∀ (j v:Nat),o[j]?=some (some v)->v < k
 one:∀ (j j' v:Nat),o[j]?=some (some v)->o[j']?=some (some v)->j=j'
 way:∀ (v:Nat),v < k->∃ (j c:Nat),o[j]?=some (some v)/\sl m (hs.getD v 0) c=j/\∀ c',c' < c->tak o (sl m (hs.getD v 0) c')=true
theorem Laid.room {m:Nat}{hs:List Int}{o:Array (Option Nat)}{k:Nat} (L:Laid m hs o k) (hk:k<=m):∃ j,j < m+1/\tak o j=false:=by
 apply byContradiction
 intro no
 have all:∀ j,j < m+1->∃ v,o[j]?=some (some v):=λj hj=>by
  have t:tak o j=true:=by
   cases x:tak o j with
   | true=>rfl
   | false=>exact absurd ⟨j,hj,x⟩ no
  unfold tak at t
  rw [getD,dif_pos (by rw [L.sz];exact hj)] at t
  rw [Array.getElem?_eq_getElem (by rw [L.sz];exact hj)]
  cases x:o[j]'(by rw [L.sz];exact hj) with
  | none=>simp [x] at t
  | some v=>exact ⟨v,rfl⟩
 have nd:((range (m+1)).map λj=>((o[j]?).bind id).getD 0).Nodup:=by
  unfold List.Nodup
  rw [List.pairwise_map]
  refine imp_of_mem ?_ List.nodup_range
  intro a b ha hb ne e
  obtain ⟨v,hv⟩:=all a (mem_range.mp ha)
  obtain ⟨v',dZ⟩:=all b (mem_range.mp hb)
  rw [hv,dZ] at e
  have e:v=v':=e
  subst e
  exact ne (L.one a b v hv dZ)
 have:=u5 k _ nd λx hx=>by
  obtain ⟨j,hj,rfl⟩:=mem_map.mp hx
  obtain ⟨v,hv⟩:=all j (mem_range.mp hj)
  rw [hv]
  exact L.old j v hv
 rw [length_map,length_range] at this
 omega
theorem Laid.step {m:Nat} (R:Round m){hs:List Int}{o:Array (Option Nat)}{k:Nat} (L:Laid m hs o k) (hk:k<=m):∃ j,layClean.free m o (turns m) (bits (hs.getD k 0) % (m+1)) (bits (hs.getD k 0))=some j/\Laid m hs (o.setIfInBounds j (some k)) (k+1):=by
 rcases B1 (m:=m) (o:=o) (h:=hs.getD k 0) (turns m) 0 _ _ rfl with ⟨K,_,k2,k3,k4⟩ | full
 ·refine ⟨_,k2,?_⟩
  have hj:sl m (hs.getD k 0) K < o.size:=by
   rw [L.sz]
   have:=(u0 m (hs.getD k 0) K).1
   unfold sl
   omega
  have free:o[sl m (hs.getD k 0) K]?=some none:=by
   unfold tak at k3
   rw [getD_eq_getD_getElem?,Array.getElem?_eq_getElem hj] at k3
   rw [Array.getElem?_eq_getElem hj]
   cases x:o[sl m (hs.getD k 0) K] with
   | none=>rfl
   | some v=>rw [x] at k3;cases k3
  have get:∀ i,(o.setIfInBounds (sl m (hs.getD k 0) K) (some k))[i]?=if sl m (hs.getD k 0) K=i then some (some k) else o[i]?:=λi=>by
   rw [Array.getElem?_setIfInBounds]
   split
   ·rename_i e
    subst e
    simp [hj]
   ·rfl
  have more:∀ i,tak o i=true->tak (o.setIfInBounds (sl m (hs.getD k 0) K) (some k)) i=true:=λi hi=>by
   unfold tak at hi ⊢
   rw [getD_eq_getD_getElem?] at hi ⊢
   rw [get]
   split
   ·rfl
   ·exact hi
  refine ⟨by rw [Array.size_setIfInBounds];exact L.sz,λj v e=>?_,λj j' v e e'=>?_,λv hv=>?_⟩
  ·rw [get] at e
   split at e
   ·cases e;omega
   ·have:=L.old j v e;omega
  ·rw [get] at e e'
   split at e
   ·cases e
    split at e'
    ·omega
    ·have:=L.old j' k e';omega
   ·split at e'
    ·cases e'
     have:=L.old j k e;omega
    ·exact L.one j j' v e e'
  ·by_cases z:v=k
   ·subst z
    exact ⟨_,K,by rw [get,if_pos rfl],rfl,λc' bx=>more _ (k4 c' (zero_le _) bx)⟩
   ·obtain ⟨j,c,e1,e2,e3⟩:=L.way v (by omega)
    refine ⟨j,c,?_,e2,λc' bx=>more _ (e3 c' bx)⟩
    rw [get,if_neg ?_]
    ·exact e1
    ·intro e
     subst e
     rw [free] at e1
     cases e1
 ·obtain ⟨j,hj,tj⟩:=L.room hk
  obtain ⟨n,n1,n2⟩:=Cs R (hs.getD k 0) hj
  have:=full n (by unfold turns;omega)
  rw [n2,tj] at this
  cases this
theorem Dd {m:Nat} (R:Round m) (hs:List Int) (hm:hs.length<=m):∃ o,layClean m hs.toArray=some o/\Laid m hs o hs.length:=by
 unfold layClean
 rw [← Array.foldl_toList]
 have bF:∀ (l pre:List Int) (o:Array (Option Nat)),hs=pre++l->Laid m hs o pre.length->∃ o',List.foldl (λaf h=>do
   let (owner,k) ← af
   let j ← layClean.free m owner (turns m) (bits h % (m+1)) (bits h)
   pure (owner.setIfInBounds j (some k),k+1)) (some (o,pre.length)) l=some (o',hs.length)/\Laid m hs o' hs.length:=by
  intro l
  induction l with
  | nil =>
   intro pre o e L
   rw [append_nil] at e
   subst e
   exact ⟨o,rfl,L⟩
  | cons h l ih =>
   intro pre o e L
   have gk:hs.getD pre.length 0=h:=by rw [e,getD_eq_getElem?_getD];simp
   have lk:pre.length<=m:=by
    have:=congrArg length e
    simp at this
    omega
   obtain ⟨j,j1,j2⟩:=L.step R lk
   rw [gk] at j1
   obtain ⟨o',h1,h2⟩:=ih (pre++[h]) (o.setIfInBounds j (some pre.length)) (by rw [e];simp) (by simpa using j2)
   refine ⟨o',?_,h2⟩
   rw [foldl_cons,← h1]
   congr 1
   show (layClean.free m o (turns m) (bits h % (m+1)) (bits h)).bind _=_
   rw [j1]
   simp
 have aT:∀ (j v:Nat),(Array.replicate (m+1) (none:Option Nat))[j]?=some (some v)->False:=λj v e=>by
  rw [Array.getElem?_replicate] at e
  split at e
  ·cases e
  ·cases e
 obtain ⟨o',h1,h2⟩:=bF hs [] (Array.replicate (m+1) none) rfl ⟨by simp,λj v e=>(aT j v e).elim,λj j' v e=>(aT j v e).elim,λv hv=>absurd hv (Nat.not_lt_zero _)⟩
 exact ⟨o',by
  have:=congrArg (Option.map (·.1)) h1
  exact this,h2⟩
theorem JB {es:Array (Int×Value)}{m:Nat} (R:Round m) (few:(m=31/\es.size<=18)\/(m=127/\es.size<=60)) (finger moves:Nat) (led:Bool):∃ t bP,laid m finger moves led true (es.map (·.1))=some (t,bP)/\(bP.filterMap (es[·]?)).size=es.size/\TabOk t (bP.filterMap (es[·]?))/\t.mask=m/\t.led=led ∧
  (∀ x,x∈bP.filterMap (es[·]?)↔x∈es):=by
 obtain ⟨o,h1,L⟩:=Dd R (es.map (·.1)).toList (by simp;omega)
 rw [Array.toArray_toList] at h1
 have nl:(es.map (·.1)).toList.length=es.size:=by simp
 rw [nl] at L
 obtain ⟨live,dD⟩:∃ live:List (Nat×Nat),live=(range (m+1)).filterMap λj=>(o.getD j none).map (j,·):=⟨_,rfl⟩
 have mem:∀ j v,(j,v)∈live↔o[j]?=some (some v):=λj v=>by
  rw [dD,mem_filterMap]
  constructor
  ·rintro ⟨a,ha,e⟩
   rw [getD_eq_getD_getElem?] at e
   cases x:o[a]? with
   | none=>rw [x] at e;cases e
   | some w =>
    rw [x] at e
    cases w with
    | none=>cases e
    | some w=>cases e;exact x
  ·intro e
   have:=(Array.getElem?_eq_some_iff.mp e).1
   refine ⟨j,mem_range.mpr (by rw [L.sz] at this;exact this),?_⟩
   rw [getD_eq_getD_getElem?,e]
   rfl
 have ris:live.Pairwise λa b=>a.1 < b.1:=by
  rw [dD,List.pairwise_filterMap]
  refine List.Pairwise.imp ?_ List.pairwise_lt_range
  intro a b lt x hx y hy
  cases e:o.getD a none with
  | none=>rw [e] at hx;cases hx
  | some v =>
   rw [e] at hx
   cases hx
   cases e':o.getD b none with
   | none=>rw [e'] at hy;cases hy
   | some v'=>rw [e'] at hy;cases hy;exact lt
 have kR:(live.map (·.2)).Nodup:=by
  unfold List.Nodup
  rw [List.pairwise_map]
  refine imp_of_mem ?_ ris
  intro a b ha hb lt e
  have h1:=(mem a.1 a.2).mp ha
  have h2:=(mem b.1 b.2).mp hb
  rw [e] at h1
  have:=L.one _ _ _ h1 h2
  omega
 have lo:live.length=es.size:=by
  refine Nat.le_antisymm ?_ ?_
  ·have:=u5 es.size (live.map (·.2)) kR λx hx=>by
    obtain ⟨q,hq,rfl⟩:=mem_map.mp hx
    exact L.old q.1 q.2 ((mem _ _).mp hq)
   simpa using this
  ·have:=wg es.size (live.map (·.2)) λv hv=>by
    obtain ⟨j,c,e,_⟩:=L.way v hv
    exact mem_map.mpr ⟨(j,v),(mem j v).mpr e,rfl⟩
   simpa using this
 have low:∀ q∈live,q.2 < es.size:=λq hq=>L.old q.1 q.2 ((mem _ _).mp hq)
 have bu:((live.map (·.2)).toArray.filterMap (es[·]?)).toList=live.map λq=>es[q.2]?.getD (0,Value.none):=by
  rw [Array.toList_filterMap]
  show (live.map (·.2)).filterMap (es[·]?)=_
  clear lo kR ris mem dD
  induction live with
  | nil=>rfl
  | cons q live ih =>
   have hq:=low q mem_cons_self
   rw [map_cons,filterMap_cons,Array.getElem?_eq_getElem hq,map_cons,Array.getElem?_eq_getElem hq]
   rw [ih λq hq=>low q (mem_cons_of_mem _ hq)]
   rfl
 refine ⟨{ mask:=m,place:=(live.map (·.1)).toArray,dummies:=#[],finger,led,moves,plain:=true },(live.map (·.2)).toArray,?_,?_,?_,rfl,rfl,λx=>?_⟩
 ·unfold laid
  rw [h1]
  show some _=some _
  rw [dD]
 ·rw [← length_toList,bu,length_map,lo]
 ·have nc:((live.map (·.2)).toArray.filterMap (es[·]?)).size=live.length:=by rw [← length_toList,bu,length_map]
  have ng:∀ i (h1:i < ((live.map (·.2)).toArray.filterMap (es[·]?)).size) (h2:i < live.length),((live.map (·.2)).toArray.filterMap (es[·]?))[i]=es[live[i].2]?.getD (0,Value.none):=λi h1 h2=>by
   rw [← Array.getElem_toList]
   have:((live.map (·.2)).toArray.filterMap (es[·]?)).toList[i]'(by rw [length_toList];exact h1)=(live.map λq=>es[q.2]?.getD (0,Value.none))[i]'(by simpa using h2):=by
    congr 1
   rw [this,getElem_map]
  refine ⟨rfl,λi j hi hj lt=>?_,?_,λi hi=>?_,⟨?_,?_⟩,rfl,λi h1 h2=>?_⟩
  ·simp at hi hj
   simp only [List.getElem_toArray,getElem_map]
   exact (List.pairwise_iff_getElem.mp ris) i j hi hj lt
  ·rw [nc];simp
  ·simp at hi
   simp only [List.getElem_toArray,getElem_map]
   have:=(mem live[i].1 live[i].2).mp (getElem_mem hi)
   have:=(Array.getElem?_eq_some_iff.mp this).1
   rw [L.sz] at this
   show _<=m
   omega
  ·simp;omega
  ·have ll:(live.map (·.1)).toArray.size=live.length:=by simp
   show m=127\/(m=31/\(live.map (·.1)).toArray.size<=18)\/(m=7/\_)
   rcases few with z | z
   ·exact .inr (.inl ⟨z.1,by rw [ll];omega⟩)
   ·exact .inl z.1
  ·have ju:i < live.length:=by simpa using h2
   rw [ng i h1 ju]
   simp only [List.getElem_toArray,getElem_map]
   have m1:=(mem live[i].1 live[i].2).mp (getElem_mem ju)
   have v1:=low live[i] (getElem_mem ju)
   obtain ⟨j,c,e1,e2,e3⟩:=L.way live[i].2 v1
   have:j=live[i].1:=L.one _ _ _ e1 m1
   subst this
   have hh:(es.map (·.1)).toList.getD live[i].2 0=es[live[i].2].1:=by
    rw [getD_eq_getElem?_getD]
    simp [v1]
   rw [hh] at e2 e3
   rw [Array.getElem?_eq_getElem v1]
   refine ⟨c,e2,λc' bx=>?_⟩
   have tk:=e3 c' bx
   unfold tak at tk
   have lt:=(u0 m es[live[i].2].1 c').1
   have lt:sl m es[live[i].2].1 c' < o.size:=by rw [L.sz];unfold sl;omega
   rw [getD,dif_pos lt] at tk
   show sl m es[live[i].2].1 c'∈_
   cases x:o[sl m es[live[i].2].1 c'] with
   | none=>simp [x] at tk
   | some v =>
    have:(sl m es[live[i].2].1 c',v)∈live:=(mem _ _).mpr (by rw [Array.getElem?_eq_getElem lt,x])
    simp only [List.mem_toArray,mem_map]
    exact ⟨_,this,rfl⟩
 ·rw [← Array.mem_toList_iff,bu,mem_map]
  constructor
  ·rintro ⟨q,hq,rfl⟩
   rw [Array.getElem?_eq_getElem (low q hq)]
   exact Array.getElem_mem _
  ·intro hx
   obtain ⟨v,hv,rfl⟩:=Array.getElem_of_mem hx
   obtain ⟨j,c,e,_⟩:=L.way v hv
   refine ⟨(j,v),(mem j v).mpr e,?_⟩
   dsimp only
   rw [Array.getElem?_eq_getElem hv]
   rfl
end DL
namespace DL
open PySem PySem.W PySem.Spec PyProof.Rows L2
mutual
def KV (h:Heap):D->Value->Prop
 | .int i,u=>∃ t,u=.int i t
 | .tup ds,u=>∃ a o ac e,u=.ref a/\h.get? a=some o/\o.cls=.type "tuple"/\o.data=.seq (ac:List Value).toArray e/\KVs h ds ac
 | _,_=>False
def KVs (h:Heap):List D->List Value->Prop
 | [],[]=>True
 | d::ds,u::us=>KV h d u/\KVs h ds us
 | _,_=>False
end
mutual
noncomputable def kyB:D->Bool
 | .int _=>true
 | .tup ds=>kyA ds
 | _=>false
noncomputable def kyA:List D->Bool
 | []=>true
 | d::ds=>kyB d&&kyA ds
end
section
variable {X:Cx}{U:List (Addr×Obj)}{Y:L2.St}{H:Hp}{s:Shared}
mutual
theorem xK (I:Inv X U Y H s):∀ (d:D) (x:V) (u:Value),kyB d=true->Is X.K H d x->RelV x u->KV s.heap d u
 | .int i,x,u,_,h,r=>by
  rw [pY h] at r
  obtain ⟨t,rfl⟩:=r
  rw [KV]
  exact ⟨t,rfl⟩
 | .tup ds,x,u,ky,h,r=>by
  obtain ⟨a,xs,rfl,h1,h2⟩:=qa h
  cases r
  obtain ⟨ac,r1,t1,_⟩:=I.tuple h1
  obtain ⟨o,e1,e2,n,e3⟩:=t1
  rw [kyB] at ky
  rw [KV]
  exact ⟨a,o,ac,n,rfl,e1,e2,e3,Ac I ds xs ac ky h2 r1⟩
 | .non,_,_,ky,_,_=>by simp [kyB] at ky
 | .bl _,_,_,ky,_,_=>by simp [kyB] at ky
 | .str _,_,_,ky,_,_=>by simp [kyB] at ky
 | .lst _,_,_,ky,_,_=>by simp [kyB] at ky
theorem Ac (I:Inv X U Y H s):∀ (ds:List D) (xs:List V) (us:List Value),kyA ds=true->IsA X.K H ds xs->Vals xs us->KVs s.heap ds us
 | [],xs,us,_,h,r=>by
  have:=h.nil_inv;subst this
  cases r
  rw [KVs];trivial
 | d::ds,xs,us,ky,h,r=>by
  obtain ⟨x,xr,rfl,h1,h2⟩:=h.cons_inv
  cases r with
  | cons r1 r2 =>
   rw [kyA,and_eq_true] at ky
   rw [KVs]
   exact ⟨xK I d x _ ky.1 h1 r1,Ac I ds xr _ ky.2 h2 r2⟩
end
end
section
variable {prog:Program}{w:World}{E:Value->Shared->Prop}
mutual
noncomputable def hD:D->Int
 | .int i=>hashInt i
 | .tup ds=>reduceHash (tupleHashOf (hDs ds))
 | _=>0
noncomputable def hDs:List D->List Int
 | []=>[]
 | d::ds=>hD d::hDs ds
end
mutual
theorem Bd:∀ (d:D) (u:Value) (A:Around) (s:Shared) (Q:Int->Shared->Prop),KV s.heap d u->A.units+dep d < cLine->(∀ tk,Q (hD d) { s with toks:=tk })->wpAny (model prog w) A (pyHash u) Q E s
 | .int i,u,A,s,Q,x,hu,q=>by
  rw [KV] at x
  obtain ⟨t,rfl⟩:=x
  exact wpAny_pyHash_int (by have:=q (s.toks+1);rw [hD] at this;exact this)
 | .tup ds,u,A,s,Q,x,hu,q=>by
  rw [KV] at x
  obtain ⟨a,o,ac,e,rfl,x1,x2,x3,x4⟩:=x
  rw [dep] at hu
  refine pyHash_slot (T := "tuple") ⟨o,x1,x2⟩ F.slot_tuple_hash F.entry_tuple_hash (F.args_tuple_hash_1 _) (beq_builtin_none _) (.inr (by omega)) ?_
  refine wpAny_bind (m:=tupleItemsOf (.ref a)) (wpAny_tupleItemsOf x1 x3 (wpAny_bind ?_))
  rw [← forIn_toList]
  refine Ch ds ac A.in1 s #[] _ x4 (by show A.units+1+_ < _;omega) λtk b hb=>?_
  refine wpAny_bind (m:=mkInt (tupleHashOf b.toList)) (wpAny_mkInt (wpAny_pure ⟨_,_,rfl,?_⟩))
  rw [hb]
  have:=q (tk+1)
  rw [hD] at this
  exact this
 | .non,_,_,_,_,x,_,_=>by simp [KV] at x
 | .bl _,_,_,_,_,x,_,_=>by simp [KV] at x
 | .str _,_,_,_,_,x,_,_=>by simp [KV] at x
 | .lst _,_,_,_,_,x,_,_=>by simp [KV] at x
theorem Ch:∀ (ds:List D) (us:List Value) (A:Around) (s:Shared) (b:Array Int) (Q:Array Int->Shared->Prop),KVs s.heap ds us->A.units+depA ds < cLine->(∀ tk b',b'.toList=b.toList++hDs ds->Q b' { s with toks:=tk }) →
  wpAny (model prog w) A (forIn us b λx r=>do let h ← pyHash x;pure unit;pure (yield (r.push h))) Q E s
 | [],us,A,s,b,Q,x,hu,q=>by
  cases us with
  | cons u us=>simp [KVs] at x
  | nil =>
   rw [forIn_nil]
   exact wpAny_pure (q s.toks b (by simp [hDs]))
 | d::ds,us,A,s,b,Q,x,hu,q=>by
  cases us with
  | nil=>simp [KVs] at x
  | cons u us =>
   rw [KVs] at x
   rw [depA] at hu
   rw [forIn_cons]
   refine wpAny_bind (wpAny_bind (Bd d u A s _ x.1 (by omega) λtk=>wpAny_bind (wpAny_pure (wpAny_pure ?_))))
   exact Ch ds us A { s with toks:=tk } _ Q x.2 (by omega) λjv b' hb=>q jv b' (by rw [hb,hDs];simp)
end
mutual
theorem xl:∀ (d:D) (u:Value) (n:Nat) (A:Around) (s:Shared) (Q:Bool->Shared->Prop),KV s.heap d u->dep d<=n->Q true s->wpAny (model prog w) A (eqIsQuiet n u) Q E s
 | .int i,u,n,A,s,Q,x,hn,q=>by
  rw [KV] at x
  obtain ⟨t,rfl⟩:=x
  exact wpAny_of_eq (eqIsQuiet_byValue n rfl) q
 | .tup ds,u,n,A,s,Q,x,hn,q=>by
  rw [KV] at x
  obtain ⟨a,o,ac,e,rfl,x1,x2,x3,x4⟩:=x
  rw [dep] at hn
  obtain ⟨n,rfl⟩:∃ k,n=k+1:=⟨n - 1,by omega⟩
  have hT:s.TypeIs (.ref a) "tuple":=⟨o,x1,x2⟩
  unfold eqIsQuiet
  refine wpAny_bind (wpAny_specialOf hT F.slot_tuple_eq.lookup ?_)
  refine wpAny_bind (m:=isInstance (.ref a) (.type "tuple")) (wpAny_isInstance hT isSubtype_tuple_tuple ?_)
  simp only [Bool.not_true,false_eq_true,if_false]
  refine wpAny_bind (wpAny_seqItems x1 x3 (wpAny_bind ?_))
  show wpAny _ _ (forIn ac.toArray _ _) _ _ s
  rw [← forIn_toList]
  refine BS ds ac n A s _ x4 (by omega) ?_
  exact wpAny_pure q
 | .non,_,_,_,_,_,x,_,_=>by simp [KV] at x
 | .bl _,_,_,_,_,_,x,_,_=>by simp [KV] at x
 | .str _,_,_,_,_,_,x,_,_=>by simp [KV] at x
 | .lst _,_,_,_,_,_,x,_,_=>by simp [KV] at x
theorem BS:∀ (ds:List D) (us:List Value) (n:Nat) (A:Around) (s:Shared) (Q:Option Bool×PUnit->Shared->Prop),KVs s.heap ds us->depA ds<=n->Q (none,()) s →
  wpAny (model prog w) A (forIn us (none,()) λy r=>do
   let __do_lift ← eqIsQuiet n y
   if (!__do_lift)=true then pure (ForInStep.done (some false,())) else do pure unit;pure (yield (none,()))) Q E s
 | [],us,n,A,s,Q,x,hn,q=>by
  cases us with
  | cons u us=>simp [KVs] at x
  | nil =>
   rw [forIn_nil]
   exact wpAny_pure q
 | d::ds,us,n,A,s,Q,x,hn,q=>by
  cases us with
  | nil=>simp [KVs] at x
  | cons u us =>
   rw [KVs] at x
   rw [depA] at hn
   rw [forIn_cons]
   refine wpAny_bind (wpAny_bind (xl d u n A s _ x.1 (by omega) ?_))
   rw [if_neg (by simp)]
   refine wpAny_bind (wpAny_pure (wpAny_pure ?_))
   exact BS ds us n A s Q x.2 (by omega) q
end
mutual
theorem xX:∀ (d:D) (u:Value) (n:Nat) (A:Around) (s:Shared) (Q:Bool->Shared->Prop),KV s.heap d u->dep d<=n->Q false s->wpAny (model prog w) A (ofAClassStatement n u) Q E s
 | .int i,u,n,A,s,Q,x,hn,q=>by
  rw [KV] at x
  obtain ⟨t,rfl⟩:=x
  unfold ofAClassStatement
  exact wpAny_pure q
 | .tup ds,u,n,A,s,Q,x,hn,q=>by
  rw [KV] at x
  obtain ⟨a,o,ac,e,rfl,x1,x2,x3,x4⟩:=x
  rw [dep] at hn
  obtain ⟨n,rfl⟩:∃ k,n=k+1:=⟨n - 1,by omega⟩
  have look:Looks (model prog w) s.heap (typeOf (.ref a)) o.cls:=(Looks.ld x1).andThen .now
  rw [x2] at look
  unfold ofAClassStatement
  refine wpAny_bind (look.here ?_)
  dsimp only
  rw [if_pos (by decide)]
  refine wpAny_bind (wpAny_pure ?_)
  simp only [Bool.not_true,false_eq_true,if_false]
  refine wpAny_bind (wpAny_seqItems x1 x3 (wpAny_bind ?_))
  show wpAny _ _ (forIn ac.toArray _ _) _ _ s
  rw [← forIn_toList]
  refine CW ds ac n A s _ x4 (by omega) ?_
  exact wpAny_pure q
 | .non,_,_,_,_,_,x,_,_=>by simp [KV] at x
 | .bl _,_,_,_,_,_,x,_,_=>by simp [KV] at x
 | .str _,_,_,_,_,_,x,_,_=>by simp [KV] at x
 | .lst _,_,_,_,_,_,x,_,_=>by simp [KV] at x
theorem CW:∀ (ds:List D) (us:List Value) (n:Nat) (A:Around) (s:Shared) (Q:Option Bool×PUnit->Shared->Prop),KVs s.heap ds us->depA ds<=n->Q (none,()) s →
  wpAny (model prog w) A (forIn us (none,()) λy r=>do
   let __do_lift ← ofAClassStatement n y
   if __do_lift=true then pure (ForInStep.done (some true,())) else do pure unit;pure (yield (none,()))) Q E s
 | [],us,n,A,s,Q,x,hn,q=>by
  cases us with
  | cons u us=>simp [KVs] at x
  | nil =>
   rw [forIn_nil]
   exact wpAny_pure q
 | d::ds,us,n,A,s,Q,x,hn,q=>by
  cases us with
  | nil=>simp [KVs] at x
  | cons u us =>
   rw [KVs] at x
   rw [depA] at hn
   rw [forIn_cons]
   refine wpAny_bind (wpAny_bind (xX d u n A s _ x.1 (by omega) ?_))
   rw [if_neg Bool.false_ne_true]
   refine wpAny_bind (wpAny_pure (wpAny_pure ?_))
   exact CW ds us n A s Q x.2 (by omega) q
end
mutual
theorem zE:∀ (d:D) (u:Value) (n:Nat) (A:Around) (s:Shared) (Q:Bool->Shared->Prop),KV s.heap d u->dep d<=n->Q true s->wpAny (model prog w) A (hashByValue n u) Q E s
 | .int i,u,n,A,s,Q,x,hn,q=>by
  rw [KV] at x
  obtain ⟨t,rfl⟩:=x
  unfold hashByValue
  exact wpAny_pure q
 | .tup ds,u,n,A,s,Q,x,hn,q=>by
  rw [KV] at x
  obtain ⟨a,o,ac,e,rfl,x1,x2,x3,x4⟩:=x
  rw [dep] at hn
  obtain ⟨n,rfl⟩:∃ k,n=k+1:=⟨n - 1,by omega⟩
  have hT:s.TypeIs (.ref a) "tuple":=⟨o,x1,x2⟩
  unfold hashByValue
  refine wpAny_bind (wpAny_specialOf hT F.slot_tuple_hash.lookup ?_)
  refine wpAny_bind (m:=seqItems? (.ref a)) (wpAny_seqItems x1 x3 (wpAny_bind ?_))
  show wpAny _ _ (forIn ac.toArray _ _) _ _ s
  rw [← forIn_toList]
  refine zX ds ac n A s _ x4 (by omega) ?_
  exact wpAny_pure q
 | .non,_,_,_,_,_,x,_,_=>by simp [KV] at x
 | .bl _,_,_,_,_,_,x,_,_=>by simp [KV] at x
 | .str _,_,_,_,_,_,x,_,_=>by simp [KV] at x
 | .lst _,_,_,_,_,_,x,_,_=>by simp [KV] at x
theorem zX:∀ (ds:List D) (us:List Value) (n:Nat) (A:Around) (s:Shared) (Q:Option Bool×PUnit->Shared->Prop),KVs s.heap ds us->depA ds<=n->Q (none,()) s →
  wpAny (model prog w) A (forIn us (none,()) λy r=>do
   let __do_lift ← hashByValue n y
   if (!__do_lift)=true then pure (ForInStep.done (some false,())) else do pure unit;pure (yield (none,()))) Q E s
 | [],us,n,A,s,Q,x,hn,q=>by
  cases us with
  | cons u us=>simp [KVs] at x
  | nil =>
   rw [forIn_nil]
   exact wpAny_pure q
 | d::ds,us,n,A,s,Q,x,hn,q=>by
  cases us with
  | nil=>simp [KVs] at x
  | cons u us =>
   rw [KVs] at x
   rw [depA] at hn
   rw [forIn_cons]
   refine wpAny_bind (wpAny_bind (zE d u n A s _ x.1 (by omega) ?_))
   rw [if_neg (by simp)]
   refine wpAny_bind (wpAny_pure (wpAny_pure ?_))
   exact zX ds us n A s Q x.2 (by omega) q
end
end
end DL
namespace DL
open PySem PySem.W PySem.Spec PyProof.Rows L2 PySem.SetTable
section
variable {prog:Program}{w:World}{A:Around}{E:Value->Shared->Prop}{s:Shared}
theorem TabOk.fits {t:SetTable}{es:Array (Int×Value)} (T:TabOk t es):t.fits es.size=true:=by
 have:=T.few
 have:=T.sz
 unfold SetTable.fits SetTable.fill
 rw [T.nd]
 simp [T.sz]
 omega
theorem TabOk.gave {t:SetTable}{es:Array (Int×Value)} (T:TabOk t es):t.gaveWay=false:=by
 unfold gaveWay
 rcases T.few.2 with h | h | h
 ·rw [h];decide
 ·rw [h.1];decide
 ·rw [h.1];decide
theorem Fo {a:Addr}{o:Obj}{es:Array (Int×Value)}{ep:Nat}{t:SetTable} (ho:s.heap.get? a=some o) (ef:o.data=.set es ep t) (T:TabOk t es){x:Value}{h:Int}{eqf:Nat->Bool}
  (fX:∀ i (hi:i < es.size),∃ b,es[i].2=.ref b) (eq:∀ i (hi:i < es.size),es[i].1=h->PySem.SeqAt.EqAt A s es[i].2 x (eqf i))
  (seen:t.led=false->∀ Q:Bool->Shared->Prop,Q false s->wpAny (model prog w) A (searchCouldBeSeen x ((es.filter (·.1 == h)).toList.map (·.2))) Q E s)
  {K:Nat} (hK:sl t.mask h K∉t.place) (hk:∀ k,k < K->sl t.mask h k∈t.place) (eM:K < 10*(t.mask+14)){Q:SetFound->Shared->Prop}
  (jw:∀ i (hi:i < es.size),es[i].1=h->eqf i=true->Q (.there none) s) (free:(∀ i (hi:i < es.size),es[i].1=h->eqf i=false)->Q (.free (sl t.mask h K) false) s) :
  ∀ (f k:Nat) (bG:Option Probe),k<=K->K - k < f->bG.getD (t.probeStart h)=pth t.mask h k->(∀ bg,bg < k->∀ j (hj:j < es.size) (bf:j < t.place.size),t.place[j]=sl t.mask h bg->es[j].1=h->eqf j=false) →
   wpAny (model prog w) A (setSearchFrom a x h true f bG) Q E s:=by
 intro f
 induction f with
 | zero=>intro k bG h1 h2;omega
 | succ f ih =>
  intro k bG h1 h2 hs eX
  unfold setSearchFrom
  refine wpAny_bind (wpAny_setState_of ho ef T.fits ?_)
  dsimp only
  rw [T.gave,if_neg Bool.false_ne_true]
  have pr:∀ m,probe.go t (hA es) h (10*turns t.mask) (pth t.mask h k)=some m->t.probe (W.hashAt es) h (bG.getD (t.probeStart h))=some m:=λm e=>by
   rw [hs]
   exact e
  rcases BA T hK hk (10*turns t.mask) k h1 (by unfold turns;omega) with ⟨k',i,hi,ba,a1,a2,a3,a4,a5,a6⟩ | ⟨a1,a2⟩
  ·have e:=pr _ a5
   change t.probe _ h _=_ at e
   have e':t.probe (λi=>(es[i]?.map (·.1)).getD 0) h (bG.getD (t.probeStart h))=some (.candidate (sl t.mask h k') i (pth t.mask h (k'+1))):=e
   show wpAny _ _ (match t.probe (λi=>(es[i]?.map (·.1)).getD 0) h (bG.getD (t.probeStart h)) with | some met=>_ | _=>_) _ _ _
   rw [e']
   dsimp only
   obtain ⟨b,eb⟩:=fX i hi
   have gi:es[i]?=some es[i]:=Array.getElem?_eq_getElem hi
   have nn:t.slot (sl t.mask h k')=.live i:=by rw [← a3];exact CY T.ris ba
   have kS:=eq i hi a4
   rw [eb] at kS
   have ask:t.led=true\/t.led=false:=by cases t.led<;>simp
   rcases ask with led | led
   all_goals
    first
     | (rw [led,Bool.not_true,if_neg Bool.false_ne_true])
     | (rw [led,Bool.not_false,if_pos rfl];refine wpAny_bind (seen led _ ?_);rw [if_neg Bool.false_ne_true])
    rw [gi]
    dsimp only
    rw [eb]
    refine wpAny_bind (wpAny_holding (kS prog w _ _ (wpAny_bind (wpAny_setState_of ho ef T.fits ?_))))
    dsimp only
    cases c:eqf i with
    | true =>
     rw [if_pos (by rfl)]
     exact wpAny_pure (jw i hi a4 c)
    | false =>
     rw [if_neg (by decide)]
     have sm:t.sameMemory t.moves t.mask=some true:=by unfold sameMemory;simp
     rw [sm]
     dsimp only
     rw [if_pos rfl,nn]
     dsimp only
     rw [gi]
     dsimp only
     rw [eb]
     refine wpAny_bind (wpAny_isSame_ref_self (wpAny_bind (wpAny_pure ?_)))
     rw [if_pos rfl]
     dsimp only
     rw [if_neg Bool.false_ne_true]
     refine ih (k'+1) _ (by omega) (by omega) rfl λbg b1 j hj bf ej hh=>?_
     by_cases z1:bg < k
     ·exact eX bg z1 j hj bf ej hh
     ·by_cases z2:bg=k'
      ·have:j=i:=by
        rw [z2,← a3] at ej
        rcases lt_trichotomy j i with l | l | l
        ·have:=T.ris j i bf ba l;omega
        ·exact l
        ·have:=T.ris i j ba bf l;omega
       subst this
       exact c
      ·exact absurd hh (a6 bg (by omega) (by omega) j hj bf ej)
  ·have e':t.probe (λi=>(es[i]?.map (·.1)).getD 0) h (bG.getD (t.probeStart h))=some (.empty (sl t.mask h K) none):=pr _ a1
   show wpAny _ _ (match t.probe (λi=>(es[i]?.map (·.1)).getD 0) h (bG.getD (t.probeStart h)) with | some met=>_ | _=>_) _ _ _
   rw [e']
   dsimp only
   refine wpAny_pure (free λi hi hh=>?_)
   have ba:i < t.place.size:=by rw [T.sz];exact hi
   obtain ⟨c,c1,c2⟩:=T.reach i hi ba
   rw [hh] at c1 c2
   have cK:c < K:=by
    rcases lt_trichotomy c K with l | l | l
    ·exact l
    ·subst l
     exact absurd (by rw [c1];exact Array.getElem_mem ba) hK
    ·exact absurd (c2 K l) hK
   by_cases z:c < k
   ·exact eX c z i hi ba c1.symm hh
   ·exact absurd hh (a2 c (by omega) cK i hi ba c1.symm)
end
section
variable {prog:Program}{w:World}{A:Around}{E:Value->Shared->Prop}{s:Shared}
def SetAt (h:Heap) (a:Addr) (led:Bool) (es:Array (Int×Value)):Prop:=∃ o ep t,h.get? a=some o/\o.cls=.type "set"/\o.data=.set es ep t/\TabOk t es/\t.led=led
theorem zF {h:Heap}{a:Addr}{o:Obj}{es es':Array (Int×Value)}{ep:Nat}{t t':SetTable} (ho:h.get? a=some o) (hd:o.data=.set es ep t):(h.update a (putSet es' t')).get? a=some { o with data:=.set es' (ep+1) t' }:=by
 have e:=putSet_of es' t' hd
 have:=get?_update_self (putSet es' t') ho (by rw [e];rfl)
 rw [e] at this
 exact this
theorem Fp {a:Addr}{led:Bool}{es:Array (Int×Value)}{b:Addr}{h:Int}{eqf:Nat->Bool}{Q:Bool->Shared->Prop} (S:SetAt s.heap a led es) (few:(∀ i (hi:i < es.size),es[i].1=h->eqf i=false)->es.size<=59)
  (fX:∀ i (hi:i < es.size),∃ b,es[i].2=.ref b) (eq:∀ i (hi:i < es.size),es[i].1=h->PySem.SeqAt.EqAt A s es[i].2 (.ref b) (eqf i))
  (seen:∀ Q:Bool->Shared->Prop,Q false s->wpAny (model prog w) A (searchCouldBeSeen (.ref b) ((es.filter (·.1 == h)).toList.map (·.2))) Q E s)
  (value:∀ Q:Bool->Shared->Prop,Q true s->wpAny (model prog w) A (hashByValue 8 (.ref b)) Q E s)
  (old:∀ i (hi:i < es.size),es[i].1=h->eqf i=true->Q false s)
  (new:(∀ i (hi:i < es.size),es[i].1=h->eqf i=false)->∀ h' es',SetAt h' a led es'->(∀ e,e∈es'↔e=(h,.ref b)\/e∈es)->es'.size=es.size+1->KeptBut a s.heap h'->Q true { s with heap:=h' }) :
  wpAny (model prog w) A (setAddHashed a (.ref b) h) Q E s:=by
 have line:200<=sizeLine:=by rw [sizeLine_eq];decide
 obtain ⟨o,ep,t,ho,hc,ef,T,tl⟩:=S
 obtain ⟨K,k1,k2,k3⟩:=T.free h
 have fits:=T.fits
 unfold setAddHashed
 refine wpAny_holding ?_
 unfold setAddHashedIn
 refine wpAny_bind (wpAny_setState_of ho ef fits ?_)
 dsimp only
 rw [if_neg (by simp [byScan,Value.scannable])]
 unfold setSearch
 refine wpAny_bind (Fo ho ef T fX eq (λ_=>seen) k2 k3 k1 (λi hi hh ee=>?_) (λaT=>?_) 100000 0 none (zero_le _) ?_ rfl λbg z=>by omega)
 ·exact wpAny_pure (old i hi hh ee)
 ·have few:=few aT
  dsimp only
  refine wpAny_bind (wpAny_setState_of ho ef fits ?_)
  dsimp only
  obtain ⟨p1,p2,p3,p4,p5,p6,p7,p8,p9,jx,kT⟩:=DK T (h:=h) (x:=.ref b) k2 k3
  obtain ⟨q,nr⟩:∃ q,q=t.put (sl t.mask h K):=⟨_,rfl⟩
  rw [← nr] at p1 p2 p3 p4 p5 p6 p7 p8 p9 jx kT ⊢
  rw [p6,T.pl,if_pos rfl]
  refine wpAny_bind (value _ ?_)
  rw [if_pos rfl]
  have cE:(insertAt es q.2 (h,Value.ref b)).size=es.size+1:=yS jx _
  refine wpAny_bind (wpAny_storeSet_of ho ef ?_ (by rw [cE];omega))
  have g1:=zF (es':=insertAt es q.2 (h,Value.ref b)) (t':=q.1) ho ef
  have cF:KeptBut a s.heap (s.heap.update a (putSet (insertAt es q.2 (h,Value.ref b)) q.1)):=λc u ne e=>(get?_update_other _ _ (Ne.symm ne)).trans e
  have dk:∀ e,e∈insertAt es q.2 (h,Value.ref b)↔e=(h,.ref b)\/e∈es:=λe=>B2 jx _ e
  obtain ⟨h1,nu⟩:∃ h1,h1=s.heap.update a (putSet (insertAt es q.2 (h,Value.ref b)) q.1):=⟨_,rfl⟩
  rw [← nu] at g1 cF ⊢
  have fill:q.1.fill=es.size+1:=by
   unfold SetTable.fill
   rw [p1,p9,T.sz]
   rfl
  by_cases full:q.1.tooFull=true
  ·-- laid anew: five things,32 places
   have m7:(t.mask=7/\es.size+1=5)\/(t.mask=31/\es.size+1=19):=by
    unfold tooFull at full
    rw [fill,p5] at full
    simp only [ge_iff_le,decide_eq_true_eq] at full
    have:=T.few
    have:=T.sz
    rcases this with x
    rcases T.few.2 with m | m | m
    ·rw [m] at full;omega
    ·rw [m.1] at full;omega
    ·rw [m.1] at full;omega
   obtain ⟨nm,Rn,sa,fw⟩:∃ nm,Round nm/\sizeAbove (grown (es.size+1))=nm+1/\((nm=31/\es.size+1<=18)\/(nm=127/\es.size+1<=60)):=by
    rcases m7 with z | z
    ·exact ⟨31,round31,by rw [z.2];decide,.inl ⟨rfl,by omega⟩⟩
    ·exact ⟨127,round127,by rw [z.2];decide,.inr ⟨rfl,by omega⟩⟩
   rw [if_pos (by simp [full])]
   unfold setRelay
   have jy:q.1.fits (insertAt es q.2 (h,Value.ref b)).size=true:=by
    unfold SetTable.fits
    rw [fill,cE,p5,p9,T.sz]
    rcases m7 with z | z<;>rw [z.1]<;>simp<;>omega
   refine wpAny_bind (wpAny_bind (wpAny_setState_of (s:={ s with heap:=h1 }) g1 rfl jy ?_))
   dsimp only
   rw [sa,if_neg (by omega)]
   obtain ⟨t2,bP,l1,l2,l3,l4,l5,l6⟩:=JB (es:=insertAt es q.2 (h,Value.ref b)) Rn (by rw [cE];exact fw) q.1.finger (q.1.movedTo nm) q.1.led
   have rel:q.1.relaid ((insertAt es q.2 (h,Value.ref b)).map (·.1)) (grown (es.size+1))=some (t2,bP):=by
    unfold relaid
    rw [sa,p6,T.pl]
    exact l1
   rw [rel]
   refine wpAny_bind (wpAny_of_eq (a:=(bP.filterMap ((insertAt es q.2 (h,Value.ref b))[·]?),t2)) ?_ ?_)
   ·show (if ((bP.filterMap ((insertAt es q.2 (h,Value.ref b))[·]?)).size != (insertAt es q.2 (h,Value.ref b)).size)=true then _ else pure _)=_
    rw [l2,bne_self_eq_false,if_neg Bool.false_ne_true]
   ·dsimp only
    refine wpAny_storeSet_of g1 rfl ?_ (by rw [l2,cE];omega)
    refine wpAny_pure (new aT _ _ ⟨_,_,t2,zF g1 rfl,hc,rfl,l3,by rw [l5,p7,tl]⟩ (λe=>(l6 e).trans (dk e)) (by rw [l2,cE]) λc u ne e=>(get?_update_other _ _ (Ne.symm ne)).trans (cF c u ne e))
  ·rw [if_neg (by simp [full])]
   refine wpAny_pure (new aT h1 _ ⟨_,_,q.1,g1,hc,rfl,⟨p1,p2,p3,p4,?_,by rw [p6];exact T.pl,kT⟩,by rw [p7,tl]⟩ dk cE cF)
   unfold tooFull at full
   rw [fill,p5] at full
   simp only [ge_iff_le,decide_eq_true_eq] at full
   have:=T.sz
   rw [p9,p5]
   refine ⟨by omega,?_⟩
   rcases T.few.2 with m | m | m
   ·exact .inl m
   ·refine .inr (.inl ⟨m.1,?_⟩)
    rw [m.1] at full
    omega
   ·refine .inr (.inr ⟨m.1,?_⟩)
    rw [m.1] at full
    omega
 ·rcases T.few.2 with m | m | m
  ·rw [m] at k1;omega
  ·rw [m.1] at k1;omega
  ·rw [m.1] at k1;omega
end
noncomputable def dstep (af:List D) (d:D):List D:=if af.any (λe=>deq e d)=true then af else af++[d]
noncomputable def dd (ds:List D):List D:=ds.foldl dstep []
theorem HG (af:List D) (d:D):af.length<=(dstep af d).length:=by
 unfold dstep
 split
 ·exact le_refl _
 ·simp
theorem Ao:∀ (ds af:List D),af.length<=(ds.foldl dstep af).length
 | [],af=>le_refl _
 | d::ds,af=>le_trans (HG af d) (Ao ds _)
theorem Jc (ds:List D){i:Nat} (h:i < ds.length):dd (ds.take (i+1))=dstep (dd (ds.take i)) ds[i]:=by
 unfold dd
 rw [take_succ,List.foldl_append,getElem?_eq_getElem h]
 rfl
theorem JT (ds:List D) (i:Nat):(dd (ds.take i)).length<=(dd ds).length:=by
 unfold dd
 conv=>rhs;rw [← List.take_append_drop i ds,List.foldl_append]
 exact Ao _ _
theorem zJ {d:D}:∀ (ds af:List D),d∈ds.foldl dstep af->d∈af\/d∈ds
 | [],af,h=>.inl h
 | e::ds,af,h=>by
  rcases zJ ds _ h with h | h
  ·unfold dstep at h
   split at h
   ·exact .inl h
   ·rcases mem_append.mp h with h | h
    ·exact .inl h
    ·exact .inr (by rw [mem_singleton.mp h];exact mem_cons_self)
  ·exact .inr (mem_cons_of_mem _ h)
theorem sg {ds:List D}{d:D} (h:d∈dd ds):d∈ds:=by
 rcases zJ ds [] h with h | h
 ·cases h
 ·exact h
section
variable {X:Cx}{U:List (Addr×Obj)}{Y:L2.St}{H:Hp}{s0 s:Shared}{prog:Program}{w:World}{A:Around}{E:Value->Shared->Prop}
def Stn (X:Cx) (H:Hp) (e:Int×Value) (d:D):Prop:=e.1=hD d/\∃ x,Is X.K H d x/\RelV x e.2
def EsOk (X:Cx) (H:Hp) (es:Array (Int×Value)) (L:List D):Prop:=es.size=L.length/\(∀ e∈es,∃ d∈L,Stn X H e d)/\∀ d∈L,∃ e∈es,Stn X H e d
noncomputable def isT:D->Bool
 | .tup _=>true
 | _=>false
theorem vp {d:D}{x:V}{u:Value} (ht:isT d=true) (h:Is X.K H d x) (r:RelV x u):∃ b,x=.ref b/\u=.ref b:=by
 cases d<;>simp [isT] at ht
 obtain ⟨a,xs,rfl,h1,h2⟩:=qa h
 cases r
 exact ⟨a,rfl,rfl⟩
theorem Stn.det (I:Inv X U Y H s){e:Int×Value}{d d':D} (h:isT d=true) (h':isT d'=true) (x:Stn X H e d) (y:Stn X H e d'):d=d':=by
 obtain ⟨_,v,a1,a2⟩:=x
 obtain ⟨_,v',b1,b2⟩:=y
 obtain ⟨b,rfl,e1⟩:=vp h a1 a2
 obtain ⟨b',rfl,e2⟩:=vp h' b1 b2
 rw [e1] at e2
 cases e2
 exact tY I a1 b1
theorem Gw {x:Value}{d:D} (hx:KV s.heap d x) (dx:dep d<=8):∀ (ys:List Value) (Q:Bool->Shared->Prop),(∀ y∈ys,∃ e,KV s.heap e y/\dep e<=8)->Q false s->wpAny (model prog w) A (searchCouldBeSeen x ys) Q E s:=by
 intro ys Q hy q
 unfold searchCouldBeSeen
 refine wpAny_bind ?_
 have bF:∀ (ys:List Value) (R:Option Bool×PUnit->Shared->Prop) (body:Value->Option Bool×PUnit->Sem (ForInStep (Option Bool×PUnit))),(∀ y∈ys,∀ R':ForInStep (Option Bool×PUnit)->Shared->Prop,R' (.yield (none,())) s->wpAny (model prog w) A (body y (none,())) R' E s)->R (none,()) s →
   wpAny (model prog w) A (forIn ys (none,()) body) R E s:=by
  intro ys R body hb r
  induction ys with
  | nil=>rw [forIn_nil];exact wpAny_pure r
  | cons y ys ih =>
   rw [forIn_cons]
   exact wpAny_bind (hb y mem_cons_self _ (ih λz hz=>hb z (mem_cons_of_mem _ hz)))
 refine bF ys _ _ (λy nv R' r'=>?_) (wpAny_pure q)
 obtain ⟨e,ky,ke⟩:=hy y nv
 dsimp only
 split
 all_goals
  split
  ·exact wpAny_pure r'
  ·refine wpAny_bind (xl d _ 8 A s _ hx dx ?_)
   rw [if_neg (by simp)]
   refine wpAny_bind (xl e _ 8 A s _ ky ke ?_)
   rw [if_neg (by simp)]
   refine wpAny_bind (xX d _ 8 A s _ hx dx ?_)
   rw [if_neg Bool.false_ne_true]
   refine wpAny_bind (xX e _ 8 A s _ ky ke ?_)
   rw [if_neg Bool.false_ne_true]
   exact wpAny_pure r'
end
section
variable {X:Cx}{U:List (Addr×Obj)}{Y:L2.St}{H:Hp}{s0 s:Shared}{prog:Program}{w:World}{A:Around}{E:Value->Shared->Prop}
def Ext (s0 s:Shared):Prop:=∃ h tk,s={ s0 with heap:=h,toks:=tk }/\∀ b o,s0.heap.get? b=some o->h.get? b=some o
theorem Ext.inv (I:Inv X U Y H s0) (e:Ext s0 s):Inv X U Y H s:=by
 obtain ⟨h,tk,rfl,k⟩:=e
 exact I.kept (t':=tk) k
theorem Ext.next (e:Ext s0 s){h':Heap}{tk:Nat} (k:∀ b o,b < s0.heap.objs.size->s.heap.get? b=some o->h'.get? b=some o):Ext s0 { s with heap:=h',toks:=tk }:=by
 obtain ⟨h,t,rfl,k0⟩:=e
 exact ⟨h',tk,rfl,λb o x=>k b o (lt_size x) (k0 b o x)⟩
def SetOk (ds:List D):Prop:=cmAll ds=true/\ds.all kyB=true/\ds.all isT=true/\depA ds<=8/\(dd ds).length<=28
theorem SetAt.kept {h h':Heap}{a:Addr}{led:Bool}{es:Array (Int×Value)} (S:SetAt h a led es) (k:∀ o,h.get? a=some o->h'.get? a=some o):SetAt h' a led es:=by
 obtain ⟨o,ep,t,r1,r2⟩:=S
 exact ⟨o,ep,t,k _ r1,r2⟩
theorem Stn.up {J:Hp} (hJ:∀ d x,Is X.K J d x->Is X.K H d x){e:Int×Value}{d:D} (h:Stn X J e d):Stn X H e d:=by
 obtain ⟨h1,x,h2,h3⟩:=h
 exact ⟨h1,x,hJ _ _ h2,h3⟩
theorem A0 (I0:Inv X U Y H s0){S It:Addr} (hS:s0.heap.objs.size<=S) (nw:s0.heap.objs.size<=It){fp:List Addr}{n:Nat}{P:Nat->Value->Prop}{St:Nat->Heap->Prop} (W:Walks prog w A.in1 It fp [It] n P St) (kU:S∉fp)
  {J:Hp} (hJ:∀ d x,Is X.K J d x->Is X.K H d x){ds:List D}{zs:List V} (ha:IsA X.K J ds zs) (ok:SetOk ds) (hn:n=ds.length) (hP:∀ i v,P i v->∃ x,zs[i]?=some x/\RelV x v) (hu:A.units+20 < cLine){led:Bool}{R:Result->Shared->Prop} :
  ∀ (k i:Nat) (s:Shared),n - i=k->i<=n->Ext s0 s->St i s.heap->(∃ es,SetAt s.heap S led es/\EsOk X J es (dd (ds.take i))) →
   (∀ s' es,Ext s0 s'->SetAt s'.heap S led es->EsOk X J es (dd ds)->R (.ok (.ret .none)) s') →
   codeAny (model prog w) A (.builtin "set.update.loop" ⟨[.ref S,.ref It],[]⟩) R s:=by
 obtain ⟨cm,ky,ti,dp,few⟩:=ok
 have kW:S≠It:=λe=>kU (by rw [e];exact W.sub It mem_cons_self)
 have nb:∀ b,b < s0.heap.objs.size->b∉[It]:=λb hb h=>by
  rw [mem_singleton.mp h] at hb
  exact absurd nw (Nat.not_le.mpr hb)
 have ny:∀ b,b < s0.heap.objs.size->b≠S:=λb hb h=>by
  rw [h] at hb
  exact absurd hS (Nat.not_le.mpr hb)
 intro k
 induction k with
 | zero =>
  intro i s hk hi ex st ei r
  obtain ⟨es,s1,s2⟩:=ei
  have:i=n:=by omega
  subst this
  refine codeAny_builtin F.entry_set_update_loop ?_;rw [under_plainId F.plain_set_update_loop _]
  refine wpAny_bind (m:=pyNext (.ref It)) (W.done s _ _ st λh' tk keep=>wpAny_pure ?_)
  rw [hn,List.take_length] at s2
  exact r _ es (ex.next λb o hb x=>keep b o (nb b hb) x) (s1.kept λo x=>keep S o (by simpa using kW) x) s2
 | succ k ih =>
  intro i s hk hi ex st ei r
  obtain ⟨es,s1,s2⟩:=ei
  have lt:i < ds.length:=by omega
  refine codeAny_builtin F.entry_set_update_loop ?_;rw [under_plainId F.plain_set_update_loop _]
  refine wpAny_bind (m:=pyNext (.ref It)) (W.item i s _ _ (by omega) st λv h1 nz pv nA cF=>?_)
  obtain ⟨x,e1,rv⟩:=hP i v pv
  obtain ⟨x',eF,hx⟩:=ha.get (getElem?_eq_getElem lt)
  rw [e1] at eF
  cases eF
  have dm:ds[i]∈ds:=getElem_mem lt
  have td:isT ds[i]=true:=all_eq_true.mp ti _ dm
  have kX:dep ds[i]<=8:=le_trans (qV dm) dp
  obtain ⟨b,rfl,rfl⟩:=vp td hx rv
  have jz:∀ tk,Ext s0 { s with heap:=h1,toks:=tk }:=λtk=>ex.next λb o hb x=>cF b o (nb b hb) x
  have kY:SetAt h1 S led es:=s1.kept λo x=>cF S o (by simpa using kW) x
  have I1:=(jz nz).inv I0
  have jA:=xK I1 _ _ _ (all_eq_true.mp ky _ dm) (hJ _ _ hx) rv
  refine wpAny_bind (m:=holding [.ref b] (setAdd S (.ref b))) (wpAny_holding ?_)
  unfold setAdd
  refine wpAny_holding (wpAny_bind (Bd _ _ _ _ _ jA (by show A.units+1+_ < _;omega) λtk=>?_))
  have I2:=(jz tk).inv I0
  have ch:∀ k,∃ d',∀ hk:k < es.size,d'∈dd (ds.take i)/\Stn X J es[k] d':=λk=>by
   by_cases hk:k < es.size
   ·obtain ⟨d',m,q⟩:=s2.2.1 es[k] (Array.getElem_mem hk)
    exact ⟨d',λ_=>⟨m,q⟩⟩
   ·exact ⟨.non,λh=>absurd h hk⟩
  have fY:∀ k (hk:k < es.size),(ch k).choose∈dd (ds.take i)/\Stn X J es[k] (ch k).choose:=λk hk=>(ch k).choose_spec hk
  have sub:∀ d'∈dd (ds.take i),d'∈ds:=λd' h=>mem_of_mem_take (sg h)
  have nB:∀ d'∈dd (ds.take i),cmB d' ds[i]=true:=λd' h=>all_eq_true.mp (all_eq_true.mp cm _ (sub d' h)) _ dm
  have jB:∀ d'∈dd (ds.take i),isT d'=true:=λd' h=>all_eq_true.mp ti _ (sub d' h)
  have iG:∀ d'∈dd (ds.take i),dep d'<=8:=λd' h=>le_trans (qV (sub d' h)) dp
  have nC:∀ d'∈dd (ds.take i),∀ e,Stn X J e d'->KV h1 d' e.2:=λd' h e q=>by
   obtain ⟨_,y,q1,q2⟩:=q
   exact xK I2 _ _ _ (all_eq_true.mp ky _ (sub d' h)) (hJ _ _ q1) q2
  have aT:(∀ k (hk:k < es.size),es[k].1=hD ds[i]->deq (ch k).choose ds[i]=false)->(dd (ds.take i)).any (λe=>deq e ds[i])=false:=λhz=>by
   rw [Bool.eq_false_iff]
   intro h
   obtain ⟨d',m,q⟩:=any_eq_true.mp h
   obtain ⟨e,m1,q1⟩:=s2.2.2 d' m
   obtain ⟨k,hk,rfl⟩:=Array.getElem_of_mem m1
   have same:=Stn.det I2 (jB _ (fY k hk).1) (jB _ m) ((fY k hk).2.up hJ) (q1.up hJ)
   have nD:=v3 _ _ (nB d' m) q
   have:=hz k hk (by rw [q1.1,nD])
   rw [same,q] at this
   cases this
  have step:dd (ds.take (i+1))=dstep (dd (ds.take i)) ds[i]:=Jc ds lt
  have cont:∀ h2 es',KeptBut S h1 h2->SetAt h2 S led es'->EsOk X J es' (dd (ds.take (i+1)))->codeAny (model prog w) A (.builtin "set.update.loop" ⟨[.ref S,.ref It],[]⟩) R { s with heap:=h2,toks:=tk }:=λh2 es' kb sa eo=>by
   refine ih (i+1) _ (by omega) (by omega) ((jz tk).next (tk:=tk) λb o hb x=>kb b o (ny b hb) x) (W.frame _ _ _ nA λb hb o x=>kb b o (λe=>kU (e▸hb)) x) ⟨es',sa,eo⟩ r
  refine Fp (s:={ s with heap:=h1,toks:=tk }) (led:=led) (es:=es) (eqf:=λk=>deq (ch k).choose ds[i]) kY (λhz=>?_) (λk hk=>?_) (λk hk _=>?_) (λQ q=>?_) (λQ q=>zE _ _ 8 _ _ _ jA kX q) (λk hk hh ee=>?_) λhz h2 es' sa mem sz kb=>?_
  ·have l1:=JT ds (i+1)
   rw [step,dstep,if_neg (by rw [aT hz];exact Bool.false_ne_true),length_append,List.length_singleton,← s2.1] at l1
   omega
  ·obtain ⟨m,_,y,q1,q2⟩:=fY k hk
   obtain ⟨b',_,e⟩:=vp (jB _ m) q1 q2
   exact ⟨b',e⟩
  ·obtain ⟨m,_,y,q1,q2⟩:=fY k hk
   exact (sH I2 8 A.in1 (by show A.units+1+8 < _;omega) _ _ _ _ _ _ (.inl (iG _ m)) (hJ _ _ q1) (hJ _ _ hx) q2 rv).2.1
  ·refine Gw (s:={ s with heap:=h1,toks:=tk }) (d:=ds[i]) jA kX _ _ (λy hy=>?_) q
   obtain ⟨e,m,rfl⟩:=mem_map.mp hy
   have m':e∈es:=(Array.mem_filter.mp (Array.mem_toList_iff.mp m)).1
   obtain ⟨d',m1,q1⟩:=s2.2.1 e m'
   exact ⟨d',nC d' m1 e q1,iG d' m1⟩
  ·refine wpAny_pure ⟨plainId_quiet F.plain_set_update_loop _,cont h1 es (λb o _ x=>x) kY ?_⟩
   rw [step,dstep,if_pos (any_eq_true.mpr ⟨_,(fY k hk).1,ee⟩)]
   exact s2
  ·refine wpAny_pure ⟨plainId_quiet F.plain_set_update_loop _,cont h2 es' kb sa ?_⟩
   rw [step,dstep,if_neg (by rw [aT hz];exact Bool.false_ne_true)]
   have own:Stn X J (hD ds[i],.ref b) ds[i]:=⟨rfl,_,hx,rv⟩
   refine ⟨by rw [sz,s2.1];simp,λe he=>?_,λd' cx=>?_⟩
   ·rcases (mem e).mp he with rfl | he
    ·exact ⟨_,by simp,own⟩
    ·obtain ⟨d',m,q⟩:=s2.2.1 e he
     exact ⟨d',mem_append_left _ m,q⟩
   ·rcases mem_append.mp cx with h | h
    ·obtain ⟨e,m,q⟩:=s2.2.2 d' h
     exact ⟨e,(mem e).mpr (.inr m),q⟩
    ·rw [mem_singleton.mp h]
     exact ⟨_,(mem _).mpr (.inl rfl),own⟩
end
theorem zN:Manifest.owners.lookup (String.ofList ['r','o','t','a','r','e','t','i','_','t','e','s'].reverse)=some Manifest.sig_set_iterator:=by kernel_rfl
theorem tv:Slot "set_iterator" "__next__" "set_iterator.__next__":=.of (owner := "set_iterator") (n := "__next__") (by rw [typeLookup_type,builtinLookup_eq_fast];kernel_rfl) (by decide +kernel) (by decide +kernel) (by decide +kernel) (by first | exact .inl (by decide +kernel) | exact .inr (by decide +kernel)) (by rw [isSubtype_type];kernel_rfl)
theorem Cg:entryFor table "set_iterator.__next__"=some Builtin.«set_iterator.__next__»:=entryFor_of_tree (by kernel_rfl)
theorem Cz (a:Value):argsOk "set_iterator.__next__" ⟨[a],[]⟩:=by
 unfold argsOk
 rw [signature?_of (id := "set_iterator.__next__") (n:=['_','_','t','x','e','n','_','_']) (o:=['r','o','t','a','r','e','t','i','_','t','e','s']) (by kernel_rfl) zN]
 kernel_rfl
theorem Iv:entryFor table "set.__iter__"=some Builtin.«frozenset.__iter__»:=entryFor_alias (id' := "frozenset.__iter__") (by kernel_rfl) rfl (by decide +kernel) (by kernel_rfl)
theorem Bc {α:Type}:∀ (l:List α) (i:Nat) (h:i < l.length),(l[i]::l.eraseIdx i).Perm l
 | a::l,0,h=>List.Perm.refl _
 | a::l,i+1,h=>by
  rw [List.eraseIdx_cons_succ,List.getElem_cons_succ]
  exact (swap a _ _).trans ((Bc l i (by simpa using h)).cons a)
theorem Ci {α:Type} (next:Nat->Nat):∀ (f k:Nat) (left:List α) (bu:Array α),left.length=f->(pickOrder.go next f k left bu).toList.Perm (bu.toList++left)
 | 0,k,left,bu,h=>by
  rw [pickOrder.go,length_eq_zero_iff.mp h,append_nil]
 | f+1,k,left,bu,h=>by
  have lt:next k % left.length < left.length:=mod_lt _ (by omega)
  rw [pickOrder.go,getElem?_eq_getElem lt]
  dsimp only
  refine (Ci next f (k+1) _ _ (by rw [List.length_eraseIdx_of_lt lt];omega)).trans ?_
  rw [Array.toList_push,List.append_assoc]
  exact List.Perm.append_left _ (Bc left _ lt)
theorem GY {α:Type} (next:Nat->Nat) (xs:Array α):(pickOrder next xs).toList.Perm xs.toList:=by
 have:=Ci next xs.size 0 xs.toList #[] (by simp)
 simpa [pickOrder] using this
section
variable {prog:Program}{w:World}{A:Around}{E:Value->Shared->Prop}{s:Shared}
noncomputable def byTx (w:World):Bool:=w.params.followText "set-order"
noncomputable def walkOf (w:World) (S:Addr) (ep:Nat) (es:Array (Int×Value)):Array (Int×Value):=if byTx w=true then pickOrder (w.params.setOrder S ep) es else es
theorem t4 (w:World) (S:Addr) (ep:Nat) (es:Array (Int×Value)):(walkOf w S ep es).toList.Perm es.toList:=by
 unfold walkOf
 split
 ·exact GY _ _
 ·exact List.Perm.refl _
theorem tL (w:World) (S:Addr) (ep:Nat) (es:Array (Int×Value)):(walkOf w S ep es).size=es.size:=by
 have:=(t4 w S ep es).length_eq
 simpa using this
noncomputable def slotAt (w:World) (t:SetTable) (k:Nat):Nat:=if byTx w=true then 0 else match k with
 | 0=>0
 | k+1=>t.place.getD k 0+1
def SitAt (h:Heap) (I S:Addr) (slot k n ep:Nat):Prop:=∃ o,h.get? I=some o/\o.cls=.type "set_iterator"/\o.data=.fields #[.int slot 0,.int k 0,.ref S,.int n 0,.int ep 0]
def SetIs (h:Heap) (S:Addr) (es:Array (Int×Value)) (ep:Nat) (t:SetTable):Prop:=∃ o,h.get? S=some o/\o.cls=.type "set"/\o.data=.set es ep t
theorem FA {w:World}{t:SetTable}{es:Array (Int×Value)} (T:TabOk t es) (hb:byTx w=false){k:Nat} (hk:k<=es.size):below t.place (slotAt w t k)=k:=by
 unfold slotAt
 rw [hb,if_neg Bool.false_ne_true];have sz:=T.sz
 cases k with
 | zero =>
  dsimp only
  obtain ⟨b1,b2,b3⟩:=uL T.ris 0
  rcases Nat.eq_zero_or_pos (below t.place 0) with h | h
  ·exact h
  ·have:=b2 0 (by omega) h
   omega
 | succ k =>
  dsimp only
  have lt:k < t.place.size:=by omega
  rw [getD,dif_pos lt]
  change below t.place (t.place[k]+1)=k+1
  obtain ⟨b1,b2,b3⟩:=uL T.ris (t.place[k]+1)
  rcases lt_trichotomy (below t.place (t.place[k]+1)) (k+1) with l | l | l
  ·have:=b3 k lt (by omega)
   omega
  ·exact l
  ·have h1:k+1 < t.place.size:=by omega
   have:=b2 (k+1) h1 l
   have:=T.ris k (k+1) lt h1 (by omega)
   omega
theorem wm {Q:Bool->Shared->Prop} (q:Q (byTx w) s):wpAny (model prog w) A setsByText Q E s:=wpAny_bind (wpAny_askSetting (wpAny_pure q))
theorem Ax {S:Addr}{es:Array (Int×Value)}{ep:Nat}{t:SetTable} (T:TabOk t es) (led:t.led=!byTx w) (hS:SetIs s.heap S es ep t){k:Nat} (hk:k<=es.size){Q:Option (Value×Nat)->Shared->Prop}
  (q:Q ((walkOf w S ep es)[k]?.map λe=>(e.2,slotAt w t (k+1))) s):wpAny (model prog w) A (setNext S (slotAt w t k) k ep) Q E s:=by
 obtain ⟨o,ho,hc,hd⟩:=hS
 unfold setNext
 refine wpAny_bind (wpAny_setState_of ho hd T.fits ?_)
 dsimp only
 refine wpAny_bind (wm ?_)
 cases hb:byTx w with
 | true =>
  rw [if_pos rfl,bne_self_eq_false,if_neg Bool.false_ne_true]
  have z:∀ k,slotAt w t k=0:=λk=>by unfold slotAt;rw [hb,if_pos rfl]
  rw [z]
  rw [z] at q
  refine wpAny_bind ?_
  unfold setWalk
  refine wpAny_bind (wpAny_setState_of ho hd T.fits ?_)
  dsimp only
  refine wpAny_bind (wm ?_)
  rw [hb,if_pos rfl]
  refine wpAny_bind (wpAny_askSetting (wpAny_pure (wpAny_pure ?_)))
  unfold walkOf at q
  rw [hb,if_pos rfl] at q
  exact q
 | false =>
  rw [if_neg Bool.false_ne_true]
  show wpAny _ _ (if (!t.plain&&decide (es.size > 1))=true then _ else _) _ _ _
  rw [T.pl,Bool.not_true,Bool.false_and,if_neg Bool.false_ne_true]
  refine wpAny_bind ?_
  show wpAny _ _ (if (!t.led&&!es.isEmpty)=true then _ else _) _ _ _
  rw [led,hb,Bool.not_false,Bool.not_true,Bool.false_and,if_neg Bool.false_ne_true]
  refine wpAny_pure (wpAny_pure ?_);rw [FA T hb hk]
  unfold walkOf at q
  rw [hb,if_neg Bool.false_ne_true] at q
  have sz:=T.sz
  by_cases lt:k < es.size
  ·have lt':k < t.place.size:=by omega
   rw [Array.getElem?_eq_getElem lt,Array.getElem?_eq_getElem lt']
   rw [Array.getElem?_eq_getElem lt] at q
   unfold slotAt at q
   rw [hb,if_neg Bool.false_ne_true] at q
   simp only [map_some,getD,lt',dif_pos] at q
   exact q
  ·rw [getElem?_eq_none (by omega)]
   rw [getElem?_eq_none (by omega)] at q
   exact q
end
section
variable {prog:Program}{w:World}{A:Around}{E:Value->Shared->Prop}{s:Shared}
theorem Ab:Slot "set_iterator" "__iter__" "set_iterator.__iter__":=.of (owner := "set_iterator") (n := "__iter__") (by rw [typeLookup_type,builtinLookup_eq_fast];kernel_rfl) (by decide +kernel) (by decide +kernel) (by decide +kernel) (by first | exact .inl (by decide +kernel) | exact .inr (by decide +kernel)) (by rw [isSubtype_type];kernel_rfl)
theorem Ir:entryFor table "set_iterator.__iter__"=some Builtin.«dict_keyiterator.__iter__»:=entryFor_alias (id' := "dict_keyiterator.__iter__") (by kernel_rfl) rfl (by decide +kernel) (by kernel_rfl)
theorem G0 (a:Value):argsOk "set_iterator.__iter__" ⟨[a],[]⟩:=by
 unfold argsOk
 rw [signature?_of (id := "set_iterator.__iter__") (n:=['_','_','r','e','t','i','_','_']) (o:=['r','o','t','a','r','e','t','i','_','t','e','s']) (by kernel_rfl) zN]
 kernel_rfl
theorem SitAt.type {I S:Addr}{slot k n ep:Nat} (h:SitAt s.heap I S slot k n ep):s.TypeIs (.ref I) "set_iterator":=by
 obtain ⟨o,h1,h2,_⟩:=h
 exact ⟨o,h1,h2⟩
theorem SetIs.type {S:Addr}{es:Array (Int×Value)}{ep:Nat}{t:SetTable} (h:SetIs s.heap S es ep t):s.TypeIs (.ref S) "set":=by
 obtain ⟨o,h1,h2,_⟩:=h
 exact ⟨o,h1,h2⟩
theorem GA {S:Addr}{es:Array (Int×Value)}{ep:Nat}{t:SetTable} (T:TabOk t es) (hS:SetIs s.heap S es ep t){Q:Value->Shared->Prop}
  (q:Q (.ref s.heap.objs.size) { s with heap:=s.heap.push { cls:=.type "set_iterator", data:=.fields #[.int 0 0,.int 0 0,.ref S,.int es.size 0,.int ep 0] } }):wpAny (model prog w) A (pyIter (.ref S)) Q E s:=by
 have hT:=hS.type
 obtain ⟨o,ho,hc,hd⟩:=hS
 refine wpAny_pyIter_slot hT F.slot_set_iter (wpAny_call_entry F.slot_set_iter hT Iv ?_ (F.args_set_iter_1 _))
 refine wpAny_bind (m:=slot0 "__iter__" ⟨[.ref S],[]⟩) (wpAny_bind (wpAny_pure (wpAny_pure ?_)))
 refine wpAny_bind (m:=Builtin.Frozenset.sizeOf S) (wpAny_bind (wpAny_setEntries_of ho hd T.fits (wpAny_pure ?_)))
 refine wpAny_bind (m:=setDrawn S) ?_
 unfold setDrawn
 refine wpAny_bind (wpAny_setState_of ho hd T.fits ?_)
 dsimp only
 refine wpAny_bind (wm (wpAny_pure ?_))
 have z:(!byTx w&&(!t.plain&&decide (es.size > 1)))=false:=by rw [T.pl];simp
 show wpAny _ _ (if (!byTx w&&(!t.plain&&decide (es.size > 1)))=true then _ else _) _ _ _
 rw [z,if_neg Bool.false_ne_true]
 refine wpAny_bind (wpAny_pure (wpAny_bind ?_));unfold setEpoch
 refine wpAny_bind (wpAny_setState_of ho hd T.fits (wpAny_pure ?_))
 exact wpAny_bind (wpAny_newObj_type (wpAny_pure ⟨_,rfl, "set_iterator", _,⟨_,get?_push_size _ rfl,rfl⟩,tv.lookup,q⟩))
theorem J0 (hh:A.handled=none){Q:Option Value->Shared->Prop} (q:∀ h',(∀ b o,s.heap.get? b=some o->h'.get? b=some o)->Q none { s with heap:=h' }) :
  wpAny (model prog w) A (newExc (.type "StopIteration") [] >>= λe=>(raiseNew e:Sem PySem.Fin)) (λ_ _=>False) (λe s'=>wpAny (model prog w) A (isInstance e (.type "StopIteration")) (λb fg=>b=true/\Q none fg) (λ_ _=>False) s') s:=by
 refine wpAny_bind ?_
 unfold newExc newTuple
 refine wpAny_bind (wpAny_newObj_type (wpAny_bind (m:=firstArgMember _ _) (wpAny_of_eq (a:=Value.none) (by first | rfl | (simp only [firstArgMember];rfl)) (wpAny_newObj_type ?_ (by size_fits)))) (by size_fits))
 unfold raiseNew
 refine wpAny_bind (wpAny_handled ?_);rw [hh]
 refine wpAny_bind (wpAny_pure (wpAny_throw ?_));refine wpAny_isInstance (T := "StopIteration") (b:=true) ⟨_,get?_push_size _ rfl,rfl⟩ isSubtype_stop ⟨rfl,q _ λb o x=>?_⟩
 exact get?_push_of_some _ (get?_push_of_some _ x)
theorem Em {I S:Addr}{es:Array (Int×Value)}{ep k:Nat}{t:SetTable} (T:TabOk t es) (led:t.led=!byTx w) (hI:SitAt s.heap I S (slotAt w t k) k es.size ep) (hS:SetIs s.heap S es ep t) (hk:k < es.size){Q:Option Value->Shared->Prop}
  (q:∀ v h',(walkOf w S ep es)[k]?.map (·.2)=some v->SitAt h' I S (slotAt w t (k+1)) (k+1) es.size ep->KeptBut I s.heap h'->Q (some v) { s with heap:=h' }):wpAny (model prog w) A (pyNext (.ref I)) Q E s:=by
 have hT:=hI.type
 obtain ⟨o,ho,hc,hd⟩:=hI
 obtain ⟨oS,jC,nE,jD⟩:=id hS
 unfold pyNext
 refine wpAny_bind (wpAny_attempt (wpAny_callSpecial?_slot (name:=ofString "__next__") hT tv (wpAny_call_entry tv hT Cg ?_ (Cz _))))
 refine wpAny_bind (m:=slotArgs "__next__" 0 ⟨[.ref I],[]⟩) (wpAny_pure ?_)
 refine wpAny_bind (wpAny_fieldsOf ho hd ?_);refine wpAny_bind (wpAny_setEntries_of jC jD T.fits ?_)
 rw [if_neg (by simp)]
 dsimp only
 have lt:k < (walkOf w S ep es).size:=by rw [tL];exact hk
 refine wpAny_bind (m:=setNext S _ _ _) ?_
 simp only [toNat_natCast]
 refine Ax T led hS (le_of_lt hk) ?_
 rw [Array.getElem?_eq_getElem lt,map_some]
 dsimp only
 refine wpAny_bind (wpAny_setField ho hd (by simp) ?_);obtain ⟨h1,e1⟩:∃ h1,h1=s.heap.update I (mapFields (·.setIfInBounds 0 (rawInt ((slotAt w t (k+1):Nat):Int)))):=⟨_,rfl⟩
 have gY:=get?_update_self (mapFields (·.setIfInBounds 0 (rawInt ((slotAt w t (k+1):Nat):Int)))) ho (Obj.isFreed_of_fields (data_mapFields hd _))
 have jE:=data_mapFields hd (·.setIfInBounds 0 (rawInt ((slotAt w t (k+1):Nat):Int)))
 have k1:KeptBut I s.heap h1:=λb o ne x=>by rw [e1];exact (get?_update_other _ _ (Ne.symm ne)).trans x
 rw [← e1] at gY ⊢
 refine wpAny_bind (wpAny_setField gY jE (by simp) (wpAny_pure ⟨_,rfl,wpAny_pure (q _ _ (by rw [Array.getElem?_eq_getElem lt];rfl) ⟨_,get?_update_self _ gY (Obj.isFreed_of_fields (data_mapFields jE _)),?_,?_⟩ λb o ne x=>(get?_update_other _ _ (Ne.symm ne)).trans (k1 b o ne x))⟩))
 ·exact ((Obj.cls_mapFields ..).trans (Obj.cls_mapFields ..)).trans hc
 ·rw [data_mapFields jE]
  simp [rawInt]
theorem Im (hh:A.handled=none){I S:Addr}{es:Array (Int×Value)}{ep:Nat}{t:SetTable} (T:TabOk t es) (led:t.led=!byTx w) (hI:SitAt s.heap I S (slotAt w t es.size) es.size es.size ep) (hS:SetIs s.heap S es ep t){Q:Option Value->Shared->Prop}
  (q:∀ h',KeptBut I s.heap h'->Q none { s with heap:=h' }):wpAny (model prog w) A (pyNext (.ref I)) Q E s:=by
 have hT:=hI.type
 obtain ⟨o,ho,hc,hd⟩:=hI
 obtain ⟨oS,jC,nE,jD⟩:=id hS
 unfold pyNext
 refine wpAny_bind (wpAny_attempt (wpAny_callSpecial?_slot (name:=ofString "__next__") hT tv (wpAny_call_entry tv hT Cg ?_ (Cz _))))
 refine wpAny_bind (m:=slotArgs "__next__" 0 ⟨[.ref I],[]⟩) (wpAny_pure ?_)
 refine wpAny_bind (wpAny_fieldsOf ho hd ?_);refine wpAny_bind (wpAny_setEntries_of jC jD T.fits ?_)
 rw [if_neg (by simp)]
 dsimp only
 refine wpAny_bind (m:=setNext S _ _ _) ?_
 simp only [toNat_natCast]
 refine Ax T led hS (le_refl _) ?_
 rw [getElem?_eq_none (by rw [tL];exact le_refl _),Option.map_none]
 dsimp only
 refine wpAny_bind (wpAny_setField ho hd (by simp) ?_);refine wpAny_mono (J0 (A:=A.in1) (s:={ s with heap:=_ }) (Q:=Q) hh λh' keep=>q h' λb o ne x=>keep b o ((get?_update_other _ _ (Ne.symm ne)).trans x)) (λ_ _ x=>x.elim) λe s' h=>?_
 refine wpAny_bind (wpAny_mono (wpAny_of_in1 h) (λb fg hb=>?_) λ_ _ x=>x.elim)
 obtain ⟨rfl,hq⟩:=hb
 exact wpAny_pure hq
theorem Fj (hh:A.handled=none){I S:Addr} (ne:S≠I){es:Array (Int×Value)}{ep:Nat}{t:SetTable} (T:TabOk t es) (led:t.led=!byTx w) :
  Walks prog w A I [I,S] [I] es.size (λk v=>(walkOf w S ep es)[k]?.map (·.2)=some v) (λk h=>SitAt h I S (slotAt w t k) k es.size ep/\SetIs h S es ep t) where
 sub:=λb hb=>by
  rw [mem_singleton.mp hb]
  exact mem_cons_self
 frame:=λk h h' st keep=>by
  obtain ⟨⟨o,a1,a2⟩,⟨o',b1,b2⟩⟩:=st
  exact ⟨⟨o,keep I (by simp) o a1,a2⟩,⟨o',keep S (by simp) o' b1,b2⟩⟩
 item:=λk s Q E hk st q=>Em T led st.1 st.2 hk λv h' e si kb=>by
  refine q v h' s.toks e ⟨si,?_⟩ λb o nb x=>kb b o (λz=>nb (by rw [z];simp)) x
  obtain ⟨o',b1,b2⟩:=st.2
  exact ⟨o',kb S o' ne b1,b2⟩
 done:=λs Q E st q=>Im hh T led st.1 st.2 λh' kb=>q h' s.toks λb o nb x=>kb b o (λz=>nb (by rw [z];simp)) x
 self:=λk s Q E st q=>by
  have hT:=st.1.type
  exact wpAny_pyIter_slot hT Ab (wpAny_call_entry Ab hT Ir (wpAny_pure ⟨_,rfl, "set_iterator", _,hT,tv.lookup,q⟩) (G0 _))
end
section
variable {prog:Program}{w:World}{A:Around}{E:Value->Shared->Prop}{s:Shared}
theorem Ib {xs:Array Value}{af:Array Value} (h:ItemsOf (λk v=>xs[k]?=some v) af xs.size):af=xs:=by
 refine Array.ext h.1 λi h1 h2=>?_
 have:=h.2 i af[i] (Array.getElem?_eq_getElem h1)
 change xs[i]?=some af[i] at this
 rw [Array.getElem?_eq_getElem h2] at this
 exact Eq.symm (Option.some.inj this)
theorem Hj {S:Addr}{Q:Bool->Shared->Prop} (hT:s.TypeIs (.ref S) "set") (q:Q false s):wpAny (model prog w) A (listLengthHint (.ref S)) Q E s:=by
 unfold listLengthHint;refine wpAny_bind (wpAny_specialOf hT F.slot_set_len.lookup ?_)
 have sp:splitId "set.__len__"=some ("set", "__len__"):=by decide +kernel
 dsimp only
 rw [sp]
 dsimp only
 refine wpAny_bind (wpAny_isInstance hT sub_set_self ?_);rw [if_neg (by decide)]
 exact wpAny_bind (wpAny_typeOf hT (wpAny_pure q))
theorem A3 (hh:A.handled=none){S:Addr}{es:Array (Int×Value)}{ep:Nat}{t:SetTable} (T:TabOk t es) (led:t.led=!byTx w) (hS:SetIs s.heap S es ep t){Q:List Value->Shared->Prop}
  (q:∀ h' tk,(∀ b o,s.heap.get? b=some o->h'.get? b=some o)->s.heap.objs.size<=h'.objs.size->Q ((walkOf w S ep es).toList.map (·.2)) { s with heap:=h',toks:=tk }):wpAny (model prog w) A (collect (.ref S)) Q E s:=by
 have line:64<=sizeLine:=by rw [sizeLine_eq];decide
 have few:es.size<=60:=by have:=T.few;have:=T.sz;omega
 have kZ:S < s.heap.objs.size:=by
  obtain ⟨o,ho,_⟩:=hS
  exact lt_size ho
 unfold collect
 refine wpAny_bind (wpAny_runValue (codeAny_builtin F.entry_proto_collect ?_));rw [under_plainId F.plain_proto_collect _]
 refine wpAny_bind (m:=newList []) (wpAny_newObj_type (wpAny_pure ⟨plainId_quiet F.plain_list_iadd _,codeAny_builtin F.entry_list_iadd ?_⟩))
 rw [under_plainId F.plain_list_iadd _];obtain ⟨h1,e1⟩:∃ h1,h1=s.heap.push { cls:=.type "list", data:=.seq ([]:List Value).toArray }:=⟨_,rfl⟩
 have c9:h1.objs.size=s.heap.objs.size+1:=by rw [e1,size_push]
 have dr:∀ b o,s.heap.get? b=some o->h1.get? b=some o:=λb o x=>by rw [e1];exact get?_push_of_some _ x
 have k6:h1.get? s.heap.objs.size=some { cls:=.type "list", data:=.seq ([]:List Value).toArray }:=by rw [e1];exact get?_push_size _ rfl
 rw [← e1]
 have jF:SetIs h1 S es ep t:=by
  obtain ⟨o,ho,r⟩:=hS
  exact ⟨o,dr _ _ ho,r⟩
 have fc:s.heap.objs.size≠S:=ne_of_gt kZ
 show wpAny _ A.in1 (listExtendWith (.ref s.heap.objs.size) (.ref S) (.ref s.heap.objs.size)) _ _ { s with heap:=h1 }
 unfold listExtendWith;refine wpAny_bind (wpAny_typeOf (s:={ s with heap:=h1 }) jF.type ?_)
 rw [if_neg (by simp [Builtin.List.listSameRef,fc])]
 refine wpAny_bind (GA (s:={ s with heap:=h1 }) T jF ?_)
 obtain ⟨I,eI⟩:∃ I,I=h1.objs.size:=⟨_,rfl⟩
 obtain ⟨h2,e2⟩:∃ h2,h2=h1.push { cls:=.type "set_iterator", data:=.fields #[.int 0 0,.int 0 0,.ref S,.int es.size 0,.int ep 0] }:=⟨_,rfl⟩
 have fZ:∀ b o,h1.get? b=some o->h2.get? b=some o:=λb o x=>by rw [e2];exact get?_push_of_some _ x
 have k7:SitAt h2 I S (slotAt w t 0) 0 es.size ep:=⟨_,by rw [e2,eI];exact get?_push_size _ rfl,rfl,by unfold slotAt;split<;>rfl⟩
 have k8:SetIs h2 S es ep t:=by
  obtain ⟨o,ho,r⟩:=jF
  exact ⟨o,fZ _ _ ho,r⟩
 show wpAny _ _ _ _ _ { s with heap:=h1.push _ }
 rw [← e2]
 rw [← eI]
 refine wpAny_bind (wpAny_holding (Hj (s:={ s with heap:=h2 }) k8.type ?_))
 rw [if_pos (by decide +kernel)]
 refine wpAny_bind (wpAny_rule (wpAny_bind (m:=Builtin.List.listTouch (.ref s.heap.objs.size)) ?_))
 have iI:=fZ _ _ k6
 refine wpAny_bind (m:=updateSeq s.heap.objs.size (·.push .none)) (wpAny_updateSeq iI rfl ?_ (by simp) (by simp))
 have iJ:=get?_update_self (mapSeq (·.push Value.none)) iI rfl
 refine wpAny_updateSeq iJ rfl ?_ (by show (#[Value.none]:Array Value).size<=_;simp;omega) (by simp)
 have iK:=get?_update_self (mapSeq (·.pop)) iJ rfl
 obtain ⟨h4,e4⟩:∃ h4,h4=((h2.update s.heap.objs.size (mapSeq (·.push Value.none))).update s.heap.objs.size (mapSeq (·.pop))):=⟨_,rfl⟩
 have b7:KeptBut s.heap.objs.size h2 h4:=λb o ne x=>by rw [e4];exact (get?_update_other _ _ (Ne.symm ne)).trans ((get?_update_other _ _ (Ne.symm ne)).trans x)
 rw [← e4] at iK
 show wpAny _ _ _ _ _ { s with heap:=Heap.update (Heap.update h2 _ _) _ _ }
 rw [← e4]
 have fk:s.heap.objs.size≠I:=by rw [eI,c9];exact ne_of_lt (lt_succ_self _)
 have k9:S≠I:=by rw [eI,c9];exact ne_of_lt (lt_succ_of_lt kZ)
 have W:=(Fj (prog:=prog) (w:=w) (A:=A.in1) (ep:=ep) (by exact hh) k9 T led).toS
 refine wpAny_pure ⟨plainId_quiet F.plain_extend_loop _,codeAny_extend_loopS W (by omega) s.heap.objs.size (by simp [fk,fc]) _ es.size 0 _ _ _ rfl (zero_le _) ?_ iK (ItemsOf.nil _) λs' af c mv here it=>?_⟩
 ·obtain ⟨o,a1,a2⟩:=k7
  obtain ⟨o',b1,b2⟩:=k8
  exact ⟨⟨o,b7 _ _ (Ne.symm fk) a1,a2⟩,⟨o',b7 _ _ (Ne.symm fc) b1,b2⟩⟩
 ·obtain ⟨h',g',d',jv,iR⟩:=s';have eg:g'=s.gens:=mv.gens
  have ed:d'=s.drawn:=mv.drawn
  have eo:iR=s.os:=mv.os
  subst eg;subst ed;subst eo
  refine wpAny_bind (wpAny_load here (wpAny_pure ?_))
  have size:es.size=((walkOf w S ep es).map (·.2)).size:=by rw [Array.size_map,tL]
  have all:af=(walkOf w S ep es).map (·.2):=Ib (by
   rw [← size]
   refine ⟨it.1,λj v hj=>?_⟩
   have:=it.2 j v hj
   show ((walkOf w S ep es).map (·.2))[j]?=some v
   rw [Array.getElem?_map]
   exact this)
  have lt':s.heap.objs.size < h'.objs.size:=lt_size here
  have:=q h' jv (λb o x=>mv.heap b o (λhb=>?_) (b7 b o (ne_of_lt (lt_size x)) (fZ _ _ (dr _ _ x)))) (le_of_lt lt')
  ·rw [all]
   simpa using this
  ·have lb:=lt_size x
   rcases mem_cons.mp hb with z | z
   ·exact ne_of_lt lb z
   ·rw [mem_singleton.mp z,eI,c9] at lb
    exact absurd lb (Nat.not_lt.mpr (le_succ _))
end
section
variable {prog:Program}{w:World}{A:Around}{E:Value->Shared->Prop}{s:Shared}
noncomputable def fresh0 (w:World):Obj:={ cls:=.type "set", dict:=none,data:=.set #[] 0 (.fresh 0 0 (!byTx w)) }
theorem BW (a:Value){Q:Value->Shared->Prop} (q:Q (.ref s.heap.objs.size) { s with heap:=s.heap.push (fresh0 w) }) :
  codeAny (model prog w) A (.call (.builtin "set.__new__") ⟨[.type "set", a],[]⟩) (wants Q E) s:=by
 refine codeAny_of_tree (wpAny_bind (m:=checkBuiltinCall "set.__new__" ⟨[.type "set", a],[]⟩) (wpAny_of_eq (PySem.F.newCall_set_1 a) (wpAny_pure ⟨plainId_quiet F.plain_set_new _,codeAny_builtin F.entry_set_new ?_⟩)))
 rw [under_plainId F.plain_set_new _];unfold Builtin.«set.__new__» newClass
 have fR:=sub_set_self
 obtain ⟨hp,g,d,tk,os⟩:=s;dsimp only
 wp_walk
 refine wpAny_askSetting (wpAny_pure (wpAny_bind (wpAny_alloc (wpAny_pure (wpAny_pure q)))))
theorem Ai (w:World):TabOk (.fresh 0 0 (!byTx w)) #[]:=by
 refine ⟨rfl,λi j hi=>?_,rfl,λi hi=>?_,⟨zero_le _,.inr (.inr ⟨rfl,zero_le _⟩)⟩,rfl,λi hi=>?_⟩
 all_goals exact absurd hi (Nat.not_lt_zero _)
variable {X:Cx}{U:List (Addr×Obj)}{Y:L2.St}{H:Hp}
theorem GB (I0:Inv X U Y H s) (hh:A.handled=none){l:Addr}{ag:List Value} (hl:s.heap.IsList l ag.toArray){J:Hp} (hJ:∀ d x,Is X.K J d x->Is X.K H d x){ds:List D}{zs:List V} (ha:IsA X.K J ds zs) (hv:Vals zs ag) (ok:SetOk ds) (hu:A.units+50 < cLine){Q:Value->Shared->Prop}
  (q:∀ S s' es,Ext s s'->s.heap.objs.size<=S->SetAt s'.heap S (!byTx w) es->EsOk X J es (dd ds)->Q (.ref S) s'):wpAny (model prog w) A (call (.type "set") [.ref l]) Q E s:=by
 obtain ⟨c,tl,lc⟩:=called_set.mro;have jG:=called_set.made
 have fR:=called_set.sub
 refine wpAny_call (codeAny_of_tree (wpAny_pure ⟨Code.quiet_builtin _ (by decide +kernel),codeAny_builtin F.entry_type_call ?_⟩))
 rw [Around.under_plain (weight_type_call_type "set" [.ref l] []) rfl];have h1:=called_set.notType
 have h2:=called_set.canCreate;have nF:=PySem.F.typeCall_set_1 (.ref l)
 repeat any_goals first | assumption | wp_step
 refine codeAny_mono (BW (w:=w) (.ref l) (E:=E) (Q:=λobj aq=>obj=.ref s.heap.objs.size/\aq={ s with heap:=s.heap.push (fresh0 w) }) ⟨rfl,rfl⟩) λr aq hr=>?_
 rcases r with e | fl
 ·exact hr
 cases fl with
 | ret obj =>
  obtain ⟨rfl,rfl⟩:=hr
  have hS:(s.heap.push (fresh0 w)).get? s.heap.objs.size=some (fresh0 w):=get?_push_size _ rfl
  have hT:Shared.TypeIs { s with heap:=s.heap.push (fresh0 w) } (.ref s.heap.objs.size) "set":=⟨_,hS,rfl⟩
  have ji:=called_set.init.lookup;have nG:=called_set.init.bind (.ref s.heap.objs.size)
  repeat any_goals first | assumption | wp_step
  refine codeAny_mono (codeAny_call_builtin (R:=wants (λr cg=>r=.none/\∃ es,Ext s cg/\SetAt cg.heap s.heap.objs.size (!byTx w) es/\EsOk X J es (dd ds)) E) called_set.init.plain F.entry_set_init (check_set_init_1 hT ?_)) λge cg b8=>?_
  ·obtain ⟨ol,gf,cD,nl,gj⟩:=hl;have gm:l < s.heap.objs.size:=lt_size gf
   obtain ⟨lf,eN,jH,dE⟩:=ol;simp only at cD gj
   subst cD;subst gj
   have ek:(s.heap.push (fresh0 w)).get? l=some { cls:=.type "list", dict:=eN,data:=.seq ag.toArray nl,slots:=dE }:=get?_push_of_some _ gf
   have lg:=PySem.F.sub_list_set
   have lh:=PySem.F.sub_list_frozenset
   have fj:(type "list" == type "dict")=false:=(by decide)
   have cN:(s.heap.push (fresh0 w)).IsList l ag.toArray:=⟨_,ek,rfl,nl,rfl⟩
   obtain ⟨h1,e1⟩:∃ h1,h1=s.heap.push (fresh0 w):=⟨_,rfl⟩
   have c9:h1.objs.size=s.heap.objs.size+1:=by rw [e1,size_push]
   have dr:∀ b o,s.heap.get? b=some o->h1.get? b=some o:=λb o x=>by rw [e1];exact get?_push_of_some _ x
   rw [← e1] at hS ek cN
   show wpAny _ _ _ _ _ { s with heap:=s.heap.push (fresh0 w) }
   rw [← e1]
   have jI:h1.get? s.heap.objs.size=some { cls:=.type "set", dict:=none,data:=.set #[] 0 (.fresh 0 0 (!byTx w)) }:=hS
   unfold Builtin.«set.__init__» noKeywords updateFrom;generalize hPI:pyIter=PI
   wp_walk
   subst hPI
   refine wpAny_pyIter_list (s:={ s with heap:=h1 }) cN (wpAny_bind (wpAny_runValue ?_))
   have fk:l≠h1.objs.size:=by rw [c9];exact ne_of_lt (lt_succ_of_lt gm)
   refine A0 (s0:=s) (led:=!byTx w) I0 (le_refl _) (by rw [c9];exact le_succ _) (Walks.list (by exact hh) h1.objs.size l fk ag.toArray) ?_ hJ ha ok (by rw [size_toArray,← hv.length,← ha.length]) (λi v hi=>?_) (by show A.units+1+1+20 < _;omega) _ 0 _ rfl (zero_le _) ?_ ?_ ?_ λs' es ex sa eo=>?_
   ·rw [c9]
    intro hm
    rcases mem_cons.mp hm with z | z
    ·exact absurd z (ne_of_lt (lt_succ_self _))
    ·exact absurd (mem_singleton.mp z) (ne_of_gt gm)
   ·have ba:ag[i]?=some v:=by simpa using hi
    have li:i < zs.length:=by
     rw [hv.length]
     rcases lt_or_ge i ag.length with z | z
     ·exact z
     ·rw [List.getElem?_eq_none z] at ba;cases ba
    obtain ⟨u,e3,e4⟩:=hv.get (getElem?_eq_getElem li)
    rw [ba] at e3
    cases e3
    exact ⟨_,getElem?_eq_getElem li,e4⟩
   ·exact ⟨_,s.toks,rfl,λb o x=>get?_push_of_some _ (dr b o x)⟩
   ·exact ⟨⟨_,get?_push_size _ rfl,rfl,rfl⟩,cN.push _⟩
   ·refine ⟨#[],⟨_,0,_,get?_push_of_some _ jI,rfl,rfl,Ai w,rfl⟩,rfl,λe he=>?_,λd hd=>?_⟩
    ·simp at he
    ·cases hd
   ·exact wpAny_pure (wpAny_pure ⟨rfl,es,ex,sa,eo⟩)
  ·rcases ge with e | eO
   ·exact b8
   ·cases eO with
    | ret r =>
     obtain ⟨rfl,es,e1,e2,e3⟩:=b8
     repeat any_goals first | assumption | wp_step
     exact q _ _ es e1 (le_refl _) e2 e3
    | _=>exact b8.elim
 | _=>exact hr.elim
end
theorem IsA.up {K:PySem.W.Frag}{J H:Hp} (h:∀ d x,Is K J d x->Is K H d x):∀ {ds:List D}{zs:List V},IsA K J ds zs->IsA K H ds zs
 | [],zs,a=>by rw [a.nil_inv];exact IsA.nil
 | d::ds,zs,a=>by
  obtain ⟨x,r,rfl,h1,h2⟩:=a.cons_inv
  exact IsA.cons (h _ _ h1) (IsA.up h h2)
section
variable {X:Cx}{U:List (Addr×Obj)}{Y:L2.St}{H:Hp}{s:Shared}{A:Around}
theorem y3 {α:Type}:∀ (l m:List α),l.Nodup->(∀ x∈l,x∈m)->m.length<=l.length->l.Perm m
 | [],m,_,_,h=>by rw [length_eq_zero_iff.mp (Nat.le_zero.mp h)]
 | x::l,m,nd,h,len=>by
  obtain ⟨a,b,rfl⟩:=List.append_of_mem (h x mem_cons_self)
  rw [nodup_cons] at nd
  have p:=y3 l (a++b) nd.2 (λy hy=>by
   have:=h y (mem_cons_of_mem _ hy)
   rcases mem_append.mp this with z | z
   ·exact (mem_append_left _ z)
   ·rcases mem_cons.mp z with z | z
    ·subst z;exact absurd hy nd.1
    ·exact mem_append_right _ z) (by simp at len ⊢;omega)
  exact (p.cons x).trans List.perm_middle.symm
theorem B7:∀ (ds af:List D),af.Nodup->(ds.foldl dstep af).Nodup
 | [],af,h=>h
 | d::ds,af,h=>by
  refine B7 ds _ ?_
  unfold dstep
  split
  ·exact h
  ·rename_i no
   rw [nodup_append]
   refine ⟨h,by simp,λa ha b hb e=>?_⟩
   rw [mem_singleton.mp hb] at e
   subst e
   exact no (any_eq_true.mpr ⟨a,ha,vy a⟩)
theorem uR (ds:List D):(dd ds).Nodup:=B7 ds [] nodup_nil
theorem Aw {l m:List D} (p:l.Perm m) (cm:cmAll l=true):sortD l=sortD m:=by
 refine wJ _ _ ((tR l).trans (p.trans (tR m).symm)) (tz l) (tz m) λa ha b hb h1 h2=>?_
 have c:=all_eq_true.mp (all_eq_true.mp cm a ((tR l).mem_iff.mp ha)) b ((tR l).mem_iff.mp hb)
 refine v3 a b c ?_
 rw [uw a b c]
 unfold leD at h1 h2
 rw [h1,h2]
 rfl
theorem yQ {n:Nat}:∀ {xs:List D},(∀ x∈xs,dep x<=n)->depA xs<=n
 | [],_=>by rw [depA];exact zero_le _
 | x::xs,h=>by
  rw [depA]
  exact Nat.max_le.mpr ⟨h x mem_cons_self,yQ λy hy=>h y (mem_cons_of_mem _ hy)⟩
theorem wv {J:Hp}{M:List D}:∀ (L:List (Int×Value)),(∀ e∈L,∃ d∈M,Stn X J e d)->∃ ds zs,IsA X.K J ds zs/\Vals zs (L.map (·.2))/\ds.length=L.length/\(∀ d∈ds,d∈M)/\∀ e∈L,∃ d∈ds,Stn X J e d
 | [],_=>⟨[],[],IsA.nil,.nil,rfl,λd hd=>(by cases hd),λe he=>(by cases he)⟩
 | e::L,h=>by
  obtain ⟨ds,zs,a1,a2,a3,a4,a5⟩:=wv L λe he=>h e (mem_cons_of_mem _ he)
  obtain ⟨d,m,q⟩:=h e mem_cons_self
  obtain ⟨_,x,q1,q2⟩:=id q
  refine ⟨d::ds,x::zs,IsA.cons q1 a1,.cons q2 a2,by simp [a3],λd' cx=>?_,λe' dY=>?_⟩
  ·rcases mem_cons.mp cx with z | z
   ·rw [z];exact m
   ·exact a4 d' z
  ·rcases mem_cons.mp dY with z | z
   ·rw [z];exact ⟨d,mem_cons_self,q⟩
   ·obtain ⟨d',m',q'⟩:=a5 e' z
    exact ⟨d',mem_cons_of_mem _ m',q'⟩
theorem Hx (hu:X.A.units+100 < cLine) (hh:X.A.handled=none) (I:Inv X U Y H s){p:Addr}{J:Hp} (hJ:∀ d x,Is X.K J d x->Is X.K H d x){zs:List V}{ds:List D} (hq:SqL X.K H p zs) (ha:IsA X.K J ds zs) (ok:SetOk ds)
  (kd:ds.all fstI=true\/ds.all fstT=true){Q:VK} (k:∀ l ck,IsA X.K J (sortD (dd ds)) ck->H l=none->Q (.ref l) (upd H l (.lst ck))) :
  wpAny (model X.prog X.w) X.A (call (.type "set") [.ref p]) (λv s'=>wpAny (model X.prog X.w) X.A (call (.builtin "sorted") [v]) (EP X U Y Q) X.xe s') X.xe s:=by
 obtain ⟨ac,rv,t,hz⟩:=I.list hq
 refine GB I hh t.isList hJ ha rv ok (by omega) λS s' es ex le sa eo=>?_
 have I':=ex.inv I
 obtain ⟨cm,ky,ti,dp,few⟩:=ok
 obtain ⟨o,ep,tb,ho,hc,hd,T,led⟩:=sa
 obtain ⟨bZ,ck,a1,a2,a3,a4,a5⟩:=wv (X:=X) (J:=J) (M:=dd ds) (walkOf X.w S ep es).toList λe he=>eo.2.1 e (by
  have:=(t4 X.w S ep es).mem_iff.mp he
  simpa using this)
 have tt:∀ d∈dd ds,isT d=true:=λd hd=>all_eq_true.mp ti _ (sg hd)
 have pm:(dd ds).Perm bZ:=by
  refine y3 _ _ (uR ds) (λd hd=>?_) (by rw [a3,length_toList,tL,eo.1];exact le_refl _)
  obtain ⟨e,m,q⟩:=eo.2.2 d hd
  obtain ⟨d',m',q'⟩:=a5 e ((t4 X.w S ep es).mem_iff.mpr (by simpa using m))
  have:=Stn.det I' (tt d hd) (tt d' (a4 d' m')) (q.up hJ) (q'.up hJ)
  rw [this]
  exact m'
 have sub:∀ d∈bZ,d∈ds:=λd hd=>sg (a4 d hd)
 have eL:cmAll bZ=true:=all_eq_true.mpr λa jJ=>all_eq_true.mpr λb jK=>all_eq_true.mp (all_eq_true.mp cm a (sub a jJ)) b (sub b jK)
 have jL:IsA X.K H bZ ck:=IsA.up hJ a1
 refine xu hu I' jL a2 ⟨by have:=pm.length_eq;omega,eL,le_trans (yQ λx hx=>qV (sub x hx)) (by omega),?_⟩ (λQ' q=>A3 (A:=X.A.in1) (by exact hh) T led ⟨o,ho,hc,hd⟩ q) λl q hp e hl=>k l _ ?_ hl
 ·rcases kd with z | z
  ·exact .inr (.inl (all_eq_true.mpr λx hx=>all_eq_true.mp z x (sub x hx)))
  ·exact .inr (.inr (all_eq_true.mpr λx hx=>all_eq_true.mp z x (sub x hx)))
 ·rw [← Aw pm.symm eL,← e]
  exact a1.perm hp
end
end DL
namespace DL
open PySem PySem.W PySem.Spec PyProof.Rows L2
end DL
namespace DL
open PySem
end DL
namespace DL
open PySem PySem.W PySem.Spec PyProof.Rows L2
section
variable {X:Cx}{B:BB}{pos:Pos}{c e:Expr}{st:Stmt}{ss sa sb body:List Stmt}{g h:M Fl}{tc:M Bool}{ga:M D}
@[irreducible] def SI (X:Cx) (B:BB) (st:Stmt) (g:M Fl):Prop:=SD X B st g
@[irreducible] def SIs (X:Cx) (B:BB) (ss:List Stmt) (g:M Fl):Prop:=SDs X B ss g
theorem pQ (k:SD X B st g):SI X B st g:=by unfold SI;exact k
theorem qb (k:SIs X B ss g):SDs X B ss g:=by unfold SIs at k;exact k
theorem qk:SIs X B [] (ret .nx):=by unfold SIs;exact Dy
theorem pP (k:SI X B st g):SIs X B [st] g:=by unfold SI at k;unfold SIs;exact CT k
theorem pS (k:SI X B st g) (t:SIs X B ss h):SIs X B (st::ss) (seqS g h):=by unfold SI at k;unfold SIs at t ⊢;exact Je k t
theorem qg (hc:TD X B c tc) (ha:SIs X B sa g) (hb:SIs X B sb h):SI X B (.If c sa sb pos) (ifS tc g h):=by unfold SIs at ha hb;unfold SI;exact Ge hc ha hb
theorem rQ {m:Nat}{iter tg:Expr}{it:M (List D)}{az:D->M Unit} (hp:PassesOwn (model X.prog X.w) X.A X.env X.xe) (hc:X.calm=true) (hi:ITD X B tg iter it) (hg:GD X B m tg az) (hb:SIs X B body g)
  (hs:∀ x,foldedSetIterable iter X.env x=pure x:=by intro _;rfl):SI X B (.For tg iter body [] pos) (forS it az g):=by unfold SIs at hb;unfold SI;exact Dc hp hc hi hg hb hs
theorem pZ {i:Nat}{x:Str}{aL:Pos} (hN:X.N.Nodup) (he:ED X B e ga) (hi:X.N[i]?=some x:=by rfl) (hx:locB X.env.scope x=true:=by rfl) (hs:swapsWith e (some (.Name x aL)) pos.line X.env=pure false:=by rfl)
  (hf:fnB X x=true:=by rfl):SI X B (.Assign [.Name x aL] e pos) (setV i ga):=by unfold SI;exact By hN he hi hx hs hf
end
section
variable {X:Cx}{B:BB}{e a st:Expr}{es:List Expr}{pos:Pos}{t:M (List D)}
def rInsert:V->List V->Hp->VK->Prop:=λx vs H Q=>∃ (l:Addr) (xs:List V) (i:Nat) (y:V),x=.ref l/\vs=[.int i,y]/\H l=some (.lst xs)/\i<=xs.length/\xs.length < sizeLine/\Q .non (upd H l (.lst (xs.take i++y::xs.drop i)))
theorem Es:MtM X "list.insert" rInsert:=by
 intro U s Y H x vs v us Q I rx rv h
 obtain ⟨l,xs,i,y,rfl,rfl,hH,hi,hz,q⟩:=h
 cases rx
 obtain ⟨u1,u2,rfl,⟨tk,rfl⟩,ru⟩:=rv.two
 obtain ⟨z,ac,n,r,hl,e⟩:=I.lstM hH
 have pj:sizeLine < 9223372036854775808:=by rw [sizeLine_eq];decide
 have c8:ac.toArray.size<=sizeLine:=by rw [size_toArray];omega
 obtain ⟨j,hj⟩:∃ j:Int,j=i:=⟨_,rfl⟩
 rw [← hj]
 have fits:¬ (!Builtin.List.listFitsIndex j)=true:=by
  have:listFitsIndex j=true:=by
   simp [listFitsIndex]
   omega
  rw [this];simp
 have m:=AutoSeq1.list_insert_list_int_val_1 l ac.toArray n j tk u2 fits c8
 refine call_meets F.slot_list_insert ⟨_,e,rfl⟩ F.entry_list_insert (F.args_list_insert_3 _ _ _) m ⟨e,?_⟩
 refine ⟨.non,_,I.lset (its':=ac.take i++u2::ac.drop i) hH e ?_ (Vals.append (r.take _) (.cons ru (r.drop _))) ?_,rfl,q⟩
 ·have h0:¬ (j < 0):=by omega
  have hm:min j.toNat ac.toArray.size=i:=by rw [size_toArray];omega
  dsimp only
  rw [if_neg h0,hm]
  apply Array.toList_inj.mp
  simp [List.extract_eq_take_drop,List.drop_take]
  exact List.take_of_length_le (by simp)
 ·rw [length_append,length_cons,length_take,length_drop]
  omega
noncomputable def insF (as:List D) (ds:List D):Option (List D):=match as with
 | [.int n,d]=>if 0<=n/\n<=ds.length/\ds.length < lim then some (ds.take n.toNat++d::ds.drop n.toNat) else none
 | _=>none
noncomputable def insS (i:Nat) (t:M (List D)):M Fl:=mutS i (bnd t λds=>bnd (wr i (insF ds)) λ_=>ret .nx)
theorem J3 {i:Nat}{x:Str}{p1 aQ av:Pos} (hv:PE X (.Name x p1) (tVar i)) (ha:AD X B (e::es) t) (hs:swapsWith (.Call (.Attribute (.Name x p1) "insert" aQ) (e::es) [] av) none pos.line X.env=pure false:=by rfl)
  (gQ:starEach (e::es) X.env=(false,eval e X.env)::starEach es X.env:=by rfl)
  (bD:attributeBase (.Name x p1) "insert" X.env (eval (.Name x p1) X.env)=eval (.Name x p1) X.env:=by rfl)
  (cj:((backTo av (starEach (e::es) X.env)).all (λx=>!x.1)&&(backToKw av (keywordEach [] X.env)).all (λx=>x.1.isSome)
   &&decide ((e::es).length+([]:List Keyword).length+(if ([]:List Keyword).isEmpty then 0 else 1) < 30))=true:=by rfl)
  (bE:(aQ.endLine == av.line)=true:=by rfl) (aZ:(backTo av (starEach es X.env)).any (·.1)=false:=by rfl) :
  SD X B (.Expr (.Call (.Attribute (.Name x p1) "insert" aQ) (e::es) [] av) pos) (insS i t) :=
 PS.imp (y9 (uE PySem.F.plainAttrs_list PySem.F.slot_list_insert PySem.F.type_list_insert Es hv ha bD cj bE gQ aZ) hs) λE Y H q=>by
  obtain ⟨G,I,Γ,f,aa,r,e1,k⟩:=q
  obtain ⟨hm,e1⟩:=uo e1
  obtain ⟨ds,Z,e2,e3⟩:=pO e1
  obtain ⟨d2,ah,e4,e5⟩:=pO e3
  cases e5
  obtain ⟨p,xs,h1,h2⟩:=t7 hm r
  refine ⟨_,h1,.inl ⟨rfl,xs,SqL.of h2⟩,G,I,Γ,ds,Z,r,e2,λvs H1 I1 r1 g1 hd=>?_⟩
  obtain ⟨p',bK,cs,es',h3,h4,h5,h6,h7⟩:=yI e4 r1
  have hp:p'=p:=by rw [h1] at h3;cases h3;rfl
  subst hp
  unfold insF at h6
  split at h6
  ·rename_i n d
   obtain ⟨⟨c1,c2,c3⟩,rfl⟩:=ql h6
   obtain ⟨x1,pk,rfl,nH,nI⟩:=hd.cons_inv
   obtain ⟨x2,pp,rfl,nJ,nK⟩:=nI.cons_inv
   rw [nK.nil_inv]
   obtain ⟨m,rfl⟩:=Int.eq_ofNat_of_zero_le c1
   have:=pY nH
   subst this
   have hl:=h5.length
   refine ⟨p',bK,m,x2,rfl,rfl,h4,by omega,?_,k Y _ I1 (h7 _ (IsA.append (h5.take _) (IsA.cons nJ (h5.drop _)))) g1⟩
   rw [← hl]
   exact lt_of_lt_of_le c3 (rJ (le_refl _))
  ·cases h6
end
section
variable {X:Cx}{B:BB}{e a st:Expr}{es:List Expr}{pos p p2:Pos}{t:M (List D)}{ga gs:M D}{kr:Nat}
theorem J7 (hc:X.calm=true):CallR X (.builtin "min") (λxs H Q=>∃ (q:Addr) (i j:Int),xs=[.ref q]/\SqT X.K H q [.int i,.int j]/\Q (.int (if j < i then j else i)) H):=by
 intro U s Y H xs us Q I r h
 obtain ⟨q,i,j,rfl,hq,k⟩:=h
 obtain ⟨u,rfl,ru⟩:=vals1 r
 cases ru
 obtain ⟨ac,rv,T,_⟩:=I.tuple hq
 obtain ⟨u1,u2,rfl,⟨k1,rfl⟩,⟨k2,rfl⟩⟩:=rv.two
 have low:q < s.heap.objs.size:=by obtain ⟨_,e,_⟩:=T;exact lt_size e
 refine call_min_walk (wpAny_pyIter_tuple T ?_)
 refine ⟨_,_,_,_,_,_,_,rfl,Walks.tuple (A:=X.A.in1) (I.ok.hd hc) _ q (ne_of_lt low) #[.int i k1,.int j k2],⟨⟨_,get?_push_size _ rfl,rfl,rfl⟩,T.push _⟩,(λb hb=>?_),succ_pos 1,CmpOf.ints_lt (λn=>if n=0 then i else j) ?_,λv h' tk hP hk=>?_⟩
 ·show b < (s.heap.push _).objs.size
  rw [size_push]
  rcases mem_cons.mp hb with rfl | hb
  ·exact lt_succ_self _
  ·rw [mem_singleton.mp hb];exact lt_succ_of_lt low
 ·intro n v hn
  match n,hn with
  | 0,hn=>cases hn;exact ⟨k1,rfl⟩
  | 1,hn=>cases hn;exact ⟨k2,rfl⟩
  | n+2,hn=>simp at hn
 ·have keep:∀ b o,s.heap.get? b=some o->h'.get? b=some o:=λb o e=>by
   refine hk b o (λhm=>?_) (get?_push_of_some _ e)
   have hm:=mem_singleton.mp hm
   exact absurd (hm▸lt_size e) (lt_irrefl _)
  refine ⟨_,H,I.kept keep,?_,k⟩
  simp only [size_toArray,length_cons,List.length_nil,Nat.reduceAdd,Nat.reduceSub,argBest] at hP
  by_cases c:j < i
  ·rw [if_pos c]
   simp [c] at hP
   subst hP
   exact ⟨_,rfl⟩
  ·rw [if_neg c]
   simp [c] at hP
   subst hP
   exact ⟨_,rfl⟩
theorem G6 (hc:X.calm=true):CallR X (.builtin "max") (λxs H Q=>∃ (q:Addr) (i j:Int),xs=[.ref q]/\SqT X.K H q [.int i,.int j]/\Q (.int (if j > i then j else i)) H):=by
 intro U s Y H xs us Q I r h
 obtain ⟨q,i,j,rfl,hq,k⟩:=h
 obtain ⟨u,rfl,ru⟩:=vals1 r
 cases ru
 obtain ⟨ac,rv,T,_⟩:=I.tuple hq
 obtain ⟨u1,u2,rfl,⟨k1,rfl⟩,⟨k2,rfl⟩⟩:=rv.two
 have low:q < s.heap.objs.size:=by obtain ⟨_,e,_⟩:=T;exact lt_size e
 refine call_max_walk (wpAny_pyIter_tuple T ?_)
 refine ⟨_,_,_,_,_,_,_,rfl,Walks.tuple (A:=X.A.in1) (I.ok.hd hc) _ q (ne_of_lt low) #[.int i k1,.int j k2],⟨⟨_,get?_push_size _ rfl,rfl,rfl⟩,T.push _⟩,(λb hb=>?_),succ_pos 1,CmpOf.ints_gt (λn=>if n=0 then i else j) ?_,λv h' tk hP hk=>?_⟩
 ·show b < (s.heap.push _).objs.size
  rw [size_push]
  rcases mem_cons.mp hb with rfl | hb
  ·exact lt_succ_self _
  ·rw [mem_singleton.mp hb];exact lt_succ_of_lt low
 ·intro n v hn
  match n,hn with
  | 0,hn=>cases hn;exact ⟨k1,rfl⟩
  | 1,hn=>cases hn;exact ⟨k2,rfl⟩
  | n+2,hn=>simp at hn
 ·have keep:∀ b o,s.heap.get? b=some o->h'.get? b=some o:=λb o e=>by
   refine hk b o (λhm=>?_) (get?_push_of_some _ e)
   have hm:=mem_singleton.mp hm
   exact absurd (hm▸lt_size e) (lt_irrefl _)
  refine ⟨_,H,I.kept keep,?_,k⟩
  simp only [size_toArray,length_cons,List.length_nil,Nat.reduceAdd,Nat.reduceSub,argBest] at hP
  by_cases c:j > i
  ·rw [if_pos c]
   simp [c] at hP
   subst hP
   exact ⟨_,rfl⟩
  ·rw [if_neg c]
   simp [c] at hP
   subst hP
   exact ⟨_,rfl⟩
noncomputable def minTF (ds:List D):Option D:=match ds with
 | [.tup [.int i,.int j]]=>some (.int (if j < i then j else i))
 | _=>none
noncomputable def maxTF (ds:List D):Option D:=match ds with
 | [.tup [.int i,.int j]]=>some (.int (if j > i then j else i))
 | _=>none
theorem BO {K:PySem.W.Frag}{I H:Hp}{i j:Int}{x:V} (sm:Same I H) (h:Is K I (.tup [.int i,.int j]) x):∃ q,x=.ref q/\SqT K H q [.int i,.int j]:=by
 obtain ⟨q,zs,rfl,h3,h4⟩:=qa h
 obtain ⟨z1,r1,rfl,g1,g2⟩:=h4.cons_inv
 obtain ⟨z2,r2,rfl,g3,g4⟩:=g2.cons_inv
 rw [g4.nil_inv] at h3
 have:=pY g1
 subst this
 have:=pY g3
 subst this
 exact ⟨q,rfl,Same.sqT sm h3⟩
theorem Jz (hc:X.calm=true) (hg:Gl X "min") (hm:X.mg "min"=none) (ha:AD X B [e] t) (he:starEach [e] X.env=(false,eval e X.env)::starEach [] X.env:=by rfl) (aA:(backTo pos (starEach [] X.env)).any (·.1)=false:=by rfl) :
  ED X B (.Call (.Name "min" p) [e] [] pos) (fn1 minTF t):=sd (J7 hc) (λds d e B G I H Y Γ xs Q r h k=>by
 unfold minTF at e
 split at e
 ·cases e
  obtain ⟨x,rfl,hx⟩:=h.one
  obtain ⟨q,rfl,h3⟩:=BO r.iH hx
  exact ⟨q,_,_,rfl,h3,k.now r (by rw [Is])⟩
 ·cases e) hg hm PyProof.Rows.boot_min ha (by decide) (by decide) he aA
theorem DF (hc:X.calm=true) (hg:Gl X "max") (hm:X.mg "max"=none) (ha:AD X B [e] t) (he:starEach [e] X.env=(false,eval e X.env)::starEach [] X.env:=by rfl) (aA:(backTo pos (starEach [] X.env)).any (·.1)=false:=by rfl) :
  ED X B (.Call (.Name "max" p) [e] [] pos) (fn1 maxTF t):=sd (G6 hc) (λds d e B G I H Y Γ xs Q r h k=>by
 unfold maxTF at e
 split at e
 ·cases e
  obtain ⟨x,rfl,hx⟩:=h.one
  obtain ⟨q,rfl,h3⟩:=BO r.iH hx
  exact ⟨q,_,_,rfl,h3,k.now r (by rw [Is])⟩
 ·cases e) hg hm boot_max ha (by decide) (by decide) he aA
end
end DL
namespace DL
open PySem PySem.W PySem.Spec PyProof.Rows L2
open PySem.SeqAt
open PySem.AutoSeq1 (wpAny_loadPart')
open PySem.MeetsSeq PySem.MeetsSeq2 PySem.MeetsSeq3
end DL
namespace DL
open PySem PySem.W PySem.Spec PyProof.Rows L2
noncomputable def altM {α:Type} (a b:M α):M α:=λΓ=>match a Γ with
 | some r=>some r
 | none=>b Γ
theorem An {α:Type}{a b:M α}{Γ aa:Gm}{x:α} (h:altM a b Γ=some (x,aa)):a Γ=some (x,aa)\/b Γ=some (x,aa):=by
 unfold altM at h
 split at h
 ·rename_i e
  cases h
  exact .inl e
 ·exact .inr h
section
variable {X:Cx}{B:BB}{e:Expr}{st:Stmt}{pos:Pos}
theorem sM {a b:M D} (h1:ED X B e a) (h2:ED X B e b):ED X B e (altM a b):=λU s Y H Q I q=>by
 obtain ⟨G,I',Γ,d,aa,r,e1,k⟩:=q
 rcases An e1 with e1 | e1
 ·exact h1 U s Y H Q I ⟨G,I',Γ,d,aa,r,e1,k⟩
 ·exact h2 U s Y H Q I ⟨G,I',Γ,d,aa,r,e1,k⟩
theorem Db {a b:M Fl} (h1:SD X B st a) (h2:SD X B st b):SD X B st (altM a b):=λU s Y H E I q=>by
 obtain ⟨G,I',Γ,d,aa,r,e1,k⟩:=q
 rcases An e1 with e1 | e1
 ·exact h1 U s Y H E I ⟨G,I',Γ,d,aa,r,e1,k⟩
 ·exact h2 U s Y H E I ⟨G,I',Γ,d,aa,r,e1,k⟩
end
end DL
namespace DL
open PySem PySem.W PySem.Spec PyProof.Rows L2
open PySem.SeqAt
open PySem.AutoSeq1 (wpAny_loadPart')
open PySem.MeetsSeq PySem.MeetsSeq2 PySem.MeetsSeq3
section
variable {X:Cx}{B:BB}{e a b st:Expr}{pos p p2:Pos}{ga gb gs:M D}
def rSlW (K:PySem.W.Frag):V->Option Int->Option Int->Hp->VK->Prop:=λx lo hi H Q=>∃ a xs,x=.ref a/\SqT K H a xs ∧
 (HT.sIx xs.length 0 lo=0/\HT.sIx xs.length xs.length hi=xs.length)/\Q (.ref a) H
theorem KP:SlR X (rSlW X.K):=by
 intro U s Y H x v vl vu lo hi sl Q I rx hs pl pu h
 obtain ⟨a,xs,rfl,hx,hw,q⟩:=h
 cases rx
 obtain ⟨ac,r,ht,hz⟩:=I.tuple hx
 have aR:ac.toArray.size=xs.length:=by rw [size_toArray];exact r.length.symm
 refine ⟨"tuple", _,PyProof.Rows.slot_tuple_getitem.lookup,ht.typeIs,?_⟩
 obtain ⟨os,eB,gO,eC⟩:=id hs
 have iU:s.TypeIs (.ref sl) "slice":=⟨os,eB,gO⟩
 unfold getItem
 try with_reducible refine wpAny_holding ?_
 first | refine wpAny_bind (wpAny_pure ?_) | skip
 refine wpAny_bind (wpAny_sequenceKey ht.typeIs (by decide) ?_)
 refine wpAny_bind (wpAny_callSpecial?_slot (name:=ofString "__getitem__") ht.typeIs PyProof.Rows.slot_tuple_getitem
  (wpAny_call_entry PyProof.Rows.slot_tuple_getitem ht.typeIs entry_tuple_getitem ?_ (args_tuple_getitem _ _)))
 show wpAny _ _ (tupleItemsOf (.ref a) >>= _) _ _ s
 refine wpAny_bind (tupleItemsOf_ ht ?_)
 refine wpAny_bind (wpAny_typeOf iU ?_)
 rw [if_pos (by decide)]
 refine wpAny_bind (HT.Bn hs pl pu ?_)
 rw [aR,hw.1,hw.2]
 show wpAny _ _ (if (((0:Nat):Int) == 0&&(1:Int) == 1&&(xs.length - 0) == xs.length)=true then _ else _) _ _ s
 rw [if_pos (by simp)]
 unfold Builtin.Tuple.tupleIsExact
 refine wpAny_bind (wpAny_bind (wpAny_typeOf ht.typeIs (wpAny_pure ?_)))
 rw [if_pos (by decide)]
 exact wpAny_bind (wpAny_rule (wpAny_pure ⟨_,rfl,wpAny_pure ⟨.ref a,H,I,rfl,q⟩⟩))
noncomputable def slWF (d:D) (lo hi:Option Int):Option D:=match d with
 | .tup ds=>if HT.sIx ds.length 0 lo=0/\HT.sIx ds.length ds.length hi=ds.length then some (.tup ds) else none
 | _=>none
theorem vK {lo hi:Option Expr}{p2:Pos}{gl gh:M (Option Int)} (ha:ED X B a ga) (hl:partD lo X B gl) (hh:partD hi X B gh):ED X B (.Subscript a (.Slice lo hi none p2) pos) (sl3 slWF ga gl gh):=PE.imp (CA KP ha hl hh) λY H Q q=>by
 obtain ⟨G,I,Γ,d,aa,r,e1,k⟩:=q
 obtain ⟨c,Z,e2,e3⟩:=pO e1
 obtain ⟨l,ah,e4,e5⟩:=pO e3
 obtain ⟨h,aK,e6,e7⟩:=pO e5
 obtain ⟨e8,rfl⟩:=qe e7
 refine ⟨G,I,Γ,c,Z,r,e2,λv H1 I1 r1 g1 hv=>⟨G,I1,Z,l,ah,r1,e4,λH2 I2 r2 g2=>⟨G,I2,ah,h,_,r2,e6,λH3 I3 r3 g3=>?_⟩⟩⟩
 have gg:=g1.trans (g2.trans g3)
 have fQ:=hv.mono (g2.trans g3).up
 unfold slWF at e8
 split at e8
 ·rename_i ds
  obtain ⟨hw,rfl⟩:=ql e8
  have nL:=fQ
  obtain ⟨p,xs,rfl,h3,h4⟩:=qa fQ
  exact ⟨p,xs,rfl,Same.sqT r3.iH h3,by rw [← h4.length];exact hw,(k.after gg).now r3 nL⟩
 ·cases e8
end
noncomputable def isStar:Expr->Bool
 | .Starred ..=>true
 | _=>false
theorem Gt {e:Expr}{aw:List Expr}{env:Env} (h:isStar e=false):starEach (e::aw) env=(false,eval e env)::starEach aw env:=by
 cases e<;>first | rfl | (simp [isStar] at h)
theorem f' {X:Cx}{B:BB}{e:Expr}{es:List Expr}{g:M D}{t:M (List D)} (ha:ED X B e g) (hr:AD X B es t) (h:isStar e=false):AD X B (e::es) (consA g t):=Fv ha hr (Gt h)
end DL
namespace DL
open PySem PySem.Spec PyProof.Rows L2
section
variable {X:Cx}{B:BB}
theorem tH {e1 e2 e3 e4:Expr}{es:List Expr}{g1 g2 g3 g4:M D}{t:M (List D)} (h1:ED X B e1 g1) (h2:ED X B e2 g2) (h3:ED X B e3 g3) (h4:ED X B e4 g4) (hr:AD X B es t) (s1:isStar e1=false) (s2:isStar e2=false) (s3:isStar e3=false) (s4:isStar e4=false):AD X B (e1::e2::e3::e4::es) (consA g1 (consA g2 (consA g3 (consA g4 t)))) :=
 f' h1 (f' h2 (f' h3 (f' h4 hr s4) s3) s2) s1
end
inductive KCs:List Expr->M (List D)->Prop
 | nil:KCs [] nilA
 | int {i:Int} {a b es t}:KCs es t->KCs (.Constant (.int i) a b::es) (consA (ret (.int i)) t)
 | bl {i:Bool} {a b es t}:KCs es t->KCs (.Constant (.bool i) a b::es) (consA (ret (.bl i)) t)
 | non {a b es t}:KCs es t->KCs (.Constant .none a b::es) (consA (ret .non) t)
 | str {i:Str} {a b es t}:KCs es t->KCs (.Constant (.str i) a b::es) (consA (ret (.str i)) t)
 | tup {fs u x p es t}:KCs fs u->KCs es t->KCs (.Tuple fs x p::es) (consA (tupA u) t)
end DL
namespace DL
open PySem PySem.W PySem.Spec PyProof.Rows L2 PySem.SetTable
section
variable {prog:Program}{w:World}{A:Around}{E:Value->Shared->Prop}{s:Shared}
variable {X:Cx}{U:List (Addr×Obj)}{Y:L2.St}{H:Hp}
theorem istup {h:Heap}{a:Addr}{ac:Array Value} (t:IsTup h a ac):h.IsTuple a ac:=t
theorem Hw (I0:Inv X U Y H s) (hh:A.handled=none){l:Addr}{ag:List Value} (hl:s.heap.IsTuple l ag.toArray){J:Hp} (hJ:∀ d x,Is X.K J d x->Is X.K H d x){ds:List D}{zs:List V} (ha:IsA X.K J ds zs) (hv:Vals zs ag) (ok:SetOk ds) (hu:A.units+50 < cLine){Q:Value->Shared->Prop}
  (q:∀ S s' es,Ext s s'->s.heap.objs.size<=S->SetAt s'.heap S (!byTx w) es->EsOk X J es (dd ds)->Q (.ref S) s'):wpAny (model prog w) A (call (.type "set") [.ref l]) Q E s:=by
 obtain ⟨c,tl,lc⟩:=called_set.mro;have jG:=called_set.made
 have fR:=called_set.sub
 refine wpAny_call (codeAny_of_tree (wpAny_pure ⟨Code.quiet_builtin _ (by decide +kernel),codeAny_builtin F.entry_type_call ?_⟩))
 rw [Around.under_plain (weight_type_call_type "set" [.ref l] []) rfl];have h1:=called_set.notType
 have h2:=called_set.canCreate;have nF:=PySem.F.typeCall_set_1 (.ref l)
 repeat any_goals first | assumption | wp_step
 refine codeAny_mono (BW (w:=w) (.ref l) (E:=E) (Q:=λobj aq=>obj=.ref s.heap.objs.size/\aq={ s with heap:=s.heap.push (fresh0 w) }) ⟨rfl,rfl⟩) λr aq hr=>?_
 rcases r with e | fl
 ·exact hr
 cases fl with
 | ret obj =>
  obtain ⟨rfl,rfl⟩:=hr
  have hS:(s.heap.push (fresh0 w)).get? s.heap.objs.size=some (fresh0 w):=get?_push_size _ rfl
  have hT:Shared.TypeIs { s with heap:=s.heap.push (fresh0 w) } (.ref s.heap.objs.size) "set":=⟨_,hS,rfl⟩
  have ji:=called_set.init.lookup;have nG:=called_set.init.bind (.ref s.heap.objs.size)
  repeat any_goals first | assumption | wp_step
  refine codeAny_mono (codeAny_call_builtin (R:=wants (λr cg=>r=.none/\∃ es,Ext s cg/\SetAt cg.heap s.heap.objs.size (!byTx w) es/\EsOk X J es (dd ds)) E) called_set.init.plain F.entry_set_init (check_set_init_1 hT ?_)) λge cg b8=>?_
  ·obtain ⟨ol,gf,cD,nl,gj⟩:=hl;have gm:l < s.heap.objs.size:=lt_size gf
   obtain ⟨lf,eN,jH,dE⟩:=ol;simp only at cD gj
   subst cD;subst gj
   have ek:(s.heap.push (fresh0 w)).get? l=some { cls:=.type "tuple", dict:=eN,data:=.seq ag.toArray nl,slots:=dE }:=get?_push_of_some _ gf
   have lg:=PySem.F.sub_tuple_set
   have lh:=PySem.F.sub_tuple_frozenset
   have fj:(type "tuple" == type "dict")=false:=(by decide)
   have cN:(s.heap.push (fresh0 w)).IsTuple l ag.toArray:=⟨_,ek,rfl,nl,rfl⟩
   obtain ⟨h1,e1⟩:∃ h1,h1=s.heap.push (fresh0 w):=⟨_,rfl⟩
   have c9:h1.objs.size=s.heap.objs.size+1:=by rw [e1,size_push]
   have dr:∀ b o,s.heap.get? b=some o->h1.get? b=some o:=λb o x=>by rw [e1];exact get?_push_of_some _ x
   rw [← e1] at hS ek cN
   show wpAny _ _ _ _ _ { s with heap:=s.heap.push (fresh0 w) }
   rw [← e1]
   have jI:h1.get? s.heap.objs.size=some { cls:=.type "set", dict:=none,data:=.set #[] 0 (.fresh 0 0 (!byTx w)) }:=hS
   unfold Builtin.«set.__init__» noKeywords updateFrom;generalize hPI:pyIter=PI
   wp_walk
   subst hPI
   refine wpAny_pyIter_tuple (s:={ s with heap:=h1 }) cN (wpAny_bind (wpAny_runValue ?_))
   have fk:l≠h1.objs.size:=by rw [c9];exact ne_of_lt (lt_succ_of_lt gm)
   refine A0 (s0:=s) (led:=!byTx w) I0 (le_refl _) (by rw [c9];exact le_succ _) (Walks.tuple (by exact hh) h1.objs.size l fk ag.toArray) ?_ hJ ha ok (by rw [size_toArray,← hv.length,← ha.length]) (λi v hi=>?_) (by show A.units+1+1+20 < _;omega) _ 0 _ rfl (zero_le _) ?_ ?_ ?_ λs' es ex sa eo=>?_
   ·rw [c9]
    intro hm
    rcases mem_cons.mp hm with z | z
    ·exact absurd z (ne_of_lt (lt_succ_self _))
    ·exact absurd (mem_singleton.mp z) (ne_of_gt gm)
   ·have ba:ag[i]?=some v:=by simpa using hi
    have li:i < zs.length:=by
     rw [hv.length]
     rcases lt_or_ge i ag.length with z | z
     ·exact z
     ·rw [List.getElem?_eq_none z] at ba;cases ba
    obtain ⟨u,e3,e4⟩:=hv.get (getElem?_eq_getElem li)
    rw [ba] at e3
    cases e3
    exact ⟨_,getElem?_eq_getElem li,e4⟩
   ·exact ⟨_,s.toks,rfl,λb o x=>get?_push_of_some _ (dr b o x)⟩
   ·exact ⟨⟨_,get?_push_size _ rfl,rfl,rfl⟩,cN.push _⟩
   ·refine ⟨#[],⟨_,0,_,get?_push_of_some _ jI,rfl,rfl,Ai w,rfl⟩,rfl,λe he=>?_,λd hd=>?_⟩
    ·simp at he
    ·cases hd
   ·exact wpAny_pure (wpAny_pure ⟨rfl,es,ex,sa,eo⟩)
  ·rcases ge with e | eO
   ·exact b8
   ·cases eO with
    | ret r =>
     obtain ⟨rfl,es,e1,e2,e3⟩:=b8
     repeat any_goals first | assumption | wp_step
     exact q _ _ es e1 (le_refl _) e2 e3
    | _=>exact b8.elim
 | _=>exact hr.elim
end
section
variable {X:Cx}{U:List (Addr×Obj)}{Y:L2.St}{H:Hp}{s:Shared}{A:Around}
theorem IF (hu:X.A.units+100 < cLine) (hh:X.A.handled=none) (I:Inv X U Y H s){p:Addr}{J:Hp} (hJ:∀ d x,Is X.K J d x->Is X.K H d x){zs:List V}{ds:List D} (hq:SqT X.K H p zs) (ha:IsA X.K J ds zs) (ok:SetOk ds)
  (kd:ds.all fstI=true\/ds.all fstT=true){Q:VK} (k:∀ l ck,IsA X.K J (sortD (dd ds)) ck->H l=none->Q (.ref l) (upd H l (.lst ck))) :
  wpAny (model X.prog X.w) X.A (call (.type "set") [.ref p]) (λv s'=>wpAny (model X.prog X.w) X.A (call (.builtin "sorted") [v]) (EP X U Y Q) X.xe s') X.xe s:=by
 obtain ⟨ac,rv,t,hz⟩:=I.tuple hq
 refine Hw I hh (istup t) hJ ha rv ok (by omega) λS s' es ex le sa eo=>?_
 have I':=ex.inv I
 obtain ⟨cm,ky,ti,dp,few⟩:=ok
 obtain ⟨o,ep,tb,ho,hc,hd,T,led⟩:=sa
 obtain ⟨bZ,ck,a1,a2,a3,a4,a5⟩:=wv (X:=X) (J:=J) (M:=dd ds) (walkOf X.w S ep es).toList λe he=>eo.2.1 e (by
  have:=(t4 X.w S ep es).mem_iff.mp he
  simpa using this)
 have tt:∀ d∈dd ds,isT d=true:=λd hd=>all_eq_true.mp ti _ (sg hd)
 have pm:(dd ds).Perm bZ:=by
  refine y3 _ _ (uR ds) (λd hd=>?_) (by rw [a3,length_toList,tL,eo.1];exact le_refl _)
  obtain ⟨e,m,q⟩:=eo.2.2 d hd
  obtain ⟨d',m',q'⟩:=a5 e ((t4 X.w S ep es).mem_iff.mpr (by simpa using m))
  have:=Stn.det I' (tt d hd) (tt d' (a4 d' m')) (q.up hJ) (q'.up hJ)
  rw [this]
  exact m'
 have sub:∀ d∈bZ,d∈ds:=λd hd=>sg (a4 d hd)
 have eL:cmAll bZ=true:=all_eq_true.mpr λa jJ=>all_eq_true.mpr λb jK=>all_eq_true.mp (all_eq_true.mp cm a (sub a jJ)) b (sub b jK)
 have jL:IsA X.K H bZ ck:=IsA.up hJ a1
 refine xu hu I' jL a2 ⟨by have:=pm.length_eq;omega,eL,le_trans (yQ λx hx=>qV (sub x hx)) (by omega),?_⟩ (λQ' q=>A3 (A:=X.A.in1) (by exact hh) T led ⟨o,ho,hc,hd⟩ q) λl q hp e hl=>k l _ ?_ hl
 ·rcases kd with z | z
  ·exact .inr (.inl (all_eq_true.mpr λx hx=>all_eq_true.mp z x (sub x hx)))
  ·exact .inr (.inr (all_eq_true.mpr λx hx=>all_eq_true.mp z x (sub x hx)))
 ·rw [← Aw pm.symm eL,← e]
  exact a1.perm hp
end
section
variable {X:Cx}{B:BB}{e:Expr}{pos aL:Pos}{kr:Nat}
def rSST (X:Cx) (xs:List V) (H:Hp) (Q:VK):Prop:=∃ (p:Addr) (zs:List V) (ds:List D) (J:Hp),xs=[.ref p]/\(SqL X.K H p zs\/SqT X.K H p zs)/\IsA X.K J ds zs/\(∀ d x,Is X.K J d x->Is X.K H d x)/\SetOk ds/\(ds.all fstI=true\/ds.all fstT=true) ∧
 ∀ l ck,IsA X.K J (sortD (dd ds)) ck->H l=none->Q (.ref l) (upd H l (.lst ck))
theorem Kj {p p':Pos}{t:TA} (hr:Room kr X.A) (hg:Gl X "sorted") (hm:X.mg "sorted"=none) (jM:Gl X "set") (fm:X.mg "set"=none) (ha:PA X [e] t)
  (he:starEach [e] X.env=(false,eval e X.env)::starEach [] X.env:=by rfl) (dY:starEach [.Call (.Name "set" p') [e] [] aL] X.env=(false,eval (.Call (.Name "set" p') [e] [] aL) X.env)::starEach [] X.env:=by rfl)
  (aA:∀ pos,(backTo pos (starEach [] X.env)).any (·.1)=false:=by intro _;rfl) :
  PE X (.Call (.Name "sorted" p) [.Call (.Name "set" p') [e] [] aL] [] pos) (tCB (rSST X) t):=by
 intro U s Y H Q I h
 refine wpAny_Call_Name_kw (rR I hg hm boot_sorted (PyProof.Rows.callWith_builtin1 ?_ dY (aA _)) (by decide) (by decide))
 rw [dY]
 refine Calls.spliced_cons (wpAny_Call_Name_kw (rR I jM fm boot_set (PyProof.Rows.callWith_type1 ?_ he (aA _)) (by decide) (by decide)))
 refine thn (ha aL U s Y H _ I h) λus s1 ⟨vs,H1,I1,r1,p,zs,ds,J,e1,q1,q2,q3,q4,q5,q6⟩=>?_
 subst e1
 obtain ⟨u,rfl,ru⟩:=vals1 r1
 cases ru
 rcases q1 with q1 | q1
 ·exact thn (Hx (hu100 hr) hr.hd I1 q3 q1 q2 q4 q5 q6) λv s2 q=>Calls.spliced_nil q
 ·exact thn (IF (hu100 hr) hr.hd I1 q3 q1 q2 q4 q5 q6) λv s2 q=>Calls.spliced_nil q
def SetCan (xs:List D):Prop:=(cmAll xs=true/\xs.all kyB=true/\xs.all isT=true/\depA xs<=8/\(dd xs).length<=28)/\(xs.all fstI=true\/xs.all fstT=true)
instance decSetCan (xs:List D):Decidable (SetCan xs):=by unfold SetCan;infer_instance
noncomputable def setTF (ds:List D):Option (List D):=match ds with
 | [.lst xs]=>if SetCan xs then some (sortD (dd xs)) else none
 | [.tup xs]=>if SetCan xs then some (sortD (dd xs)) else none
 | _=>none
theorem GI {p p':Pos}{t:M (List D)} (hr:Room kr X.A) (hg:Gl X "sorted") (hm:X.mg "sorted"=none) (jM:Gl X "set") (fm:X.mg "set"=none) (ha:AD X B [e] t)
  (he:starEach [e] X.env=(false,eval e X.env)::starEach [] X.env:=by rfl) (dY:starEach [.Call (.Name "set" p') [e] [] aL] X.env=(false,eval (.Call (.Name "set" p') [e] [] aL) X.env)::starEach [] X.env:=by rfl)
  (aA:∀ pos,(backTo pos (starEach [] X.env)).any (·.1)=false:=by intro _;rfl) :
  EO X B (.Call (.Name "sorted" p) [.Call (.Name "set" p') [e] [] aL] [] pos) (fn1 setTF t):=PE.imp (Kj hr hg hm jM fm ha he dY aA) (xR λds d e B G I H Y Γ xs Q r h k=>by
 unfold setTF at e
 split at e
 ·obtain ⟨ok,rfl⟩:=ql e
  obtain ⟨x,rfl,hx⟩:=h.one
  obtain ⟨q,zs,rfl,h3,h4⟩:=qi hx
  exact ⟨q,zs,_,I,rfl,.inl (Same.rdK r.iH h3).sq,h4,λd x hx=>hx.mono r.iH,ok.1,ok.2,λl ck hz hl=>k.new r hl hz⟩
 ·obtain ⟨ok,rfl⟩:=ql e
  obtain ⟨x,rfl,hx⟩:=h.one
  obtain ⟨q,zs,rfl,h3,h4⟩:=qa hx
  exact ⟨q,zs,_,I,rfl,.inr (Same.sqT r.iH h3),h4,λd x hx=>hx.mono r.iH,ok.1,ok.2,λl ck hz hl=>k.new r hl hz⟩
 ·cases e)
variable {a b c c':Expr}{ga gb gc gd:M D}
noncomputable def chn3 (F F' eP:D->D->Option D) (ga gb gc gd:M D):M D:=bnd ga λx=>bnd gb λy=>bnd (lft (F x y)) λz=>bnd (lft (asB z)) λk=>if k then (bnd gc λw=>bnd (lft (F' y w)) λz'=>bnd (lft (asB z')) λk'=>if k' then bnd gd λw'=>lft (eP w w') else ret (.bl false)) else ret (.bl false)
noncomputable def tChain3 (r r' dF:R2) (ta tb tc td:TE):TE:=λY H Q=>ta Y H λx H1=>tb Y H1 λy H2=>r x y H2 λz H3=>∃ k,z=.bl k ∧
 (if k then (tc Y H3 λw H4=>r' y w H4 λz' H5=>∃ k',z'=.bl k'/\(if k' then (td Y H5 λw' H6=>dF w w' H6 Q) else Q (.bl false) H5)) else Q (.bl false) H3)
theorem HE {op bA gr:CmpOp}{r r' dF:R2}{ta tb tc td:TE} (ho:OpR X (compareOp op) r) (bN:OpR X (compareOp bA) r') (lj:OpR X (compareOp gr) dF) (ha:PE X a ta) (hb:PE X b tb) (hc:PE X c tc) (hd:PE X c' td)
  (hm:lastMarks [op,bA,gr] [b,c,c']=false:=by with_unfolding_all rfl):PE X (.Compare a [op,bA,gr] [b,c,c'] pos) (tChain3 r r' dF ta tb tc td):=by
 intro U s Y H Q I h
 refine Compare_chain (thn (ha U s Y H _ I h) λv s1 ⟨x,H1,I1,r1,q1⟩=>chain_link (thn (hb U s1 Y H1 _ I1 q1) λu s2 ⟨y,H2,I2,r2,q2⟩ =>
  thn (ho U s2 Y H2 x y v u _ I2 r1 r2 q2) λd s3 ⟨z,H3,I3,r3,k,e,q3⟩=>?_)) hm
 cases e
 cases r3
 refine wpAny_truthy_bool ?_
 cases k with
 | false=>exact ite_ff ⟨.bl false,H3,I3,rfl,q3⟩
 | true =>
  refine ite_tt (chain_link (thn (hc U s3 Y H3 _ I3 q3) λu' s4 ⟨y',H4,I4,r4,q4⟩=>thn (bN U s4 Y H4 y y' u u' _ I4 r2 r4 q4) λd' s5 ⟨z',H5,I5,r5,k',e',q5⟩=>?_))
  cases e'
  cases r5
  refine wpAny_truthy_bool ?_
  cases k' with
  | false=>exact ite_ff ⟨.bl false,H5,I5,rfl,q5⟩
  | true=>exact ite_tt (chain_last (thn (hd U s5 Y H5 _ I5 q5) λw' s6 ⟨z',H6,I6,r6,q6⟩=>lj U s6 Y H6 y' z' u' w' Q I6 r4 r6 q6))
theorem Iw {r r' dF:R2}{F F' eP:D->D->Option D}{K:PySem.W.Frag} (h:OpD K r F) (h':OpD K r' F') (nM:OpD K dF eP):∀ Y H Q,tD K B (chn3 F F' eP ga gb gc gd) Y H Q->tChain3 r r' dF (tD K B ga) (tD K B gb) (tD K B gc) (tD K B gd) Y H Q:=λY H Q q=>by
 obtain ⟨G,I,Γ,d,aa,r,e1,k⟩:=q
 obtain ⟨d1,Z,e2,e3⟩:=pO e1
 obtain ⟨d2,ah,e4,e5⟩:=pO e3
 obtain ⟨d3,aK,e6,e7⟩:=pO e5
 obtain ⟨e8,rfl⟩:=qe e6
 obtain ⟨k1,aM,e9,f1⟩:=pO e7
 obtain ⟨f2,rfl⟩:=qe e9
 have:=sZ f2
 subst this
 refine ⟨G,I,Γ,d1,Z,r,e2,λv H1 I1 r1 g1 h1=>⟨G,I1,Z,d2,aM,r1,e4,λw H2 I2 r2 g2 h2=>h _ _ _ e8 B G I2 H2 Y aM v w _ r2 (h1.mono g2.up) h2 λu H3 I3 r3 g3 h3=>⟨k1,qw h3,?_⟩⟩⟩
 cases k1 with
 | false=>cases f1;exact iteF (k _ _ _ r3 (g1.trans (g2.trans g3)) (Is.bl false))
 | true =>
  obtain ⟨d4,bU,f3,f4⟩:=pO f1
  obtain ⟨d5,dg,f5,f6⟩:=pO f4
  obtain ⟨f7,rfl⟩:=qe f5
  obtain ⟨k2,gw,f8,f9⟩:=pO f6
  obtain ⟨i1,rfl⟩:=qe f8
  have:=sZ i1
  subst this
  refine iteT ⟨G,I3,aM,d4,_,r3,f3,λz H4 I4 r4 g4 h4=>h' _ _ _ f7 B G I4 H4 Y _ w z _ r4 (h2.mono (g3.trans g4).up) h4 λu' H5 I5 r5 g5 h5=>⟨k2,qw h5,?_⟩⟩
  have gg:=g1.trans (g2.trans (g3.trans (g4.trans g5)))
  cases k2 with
  | false=>cases f9;exact iteF (k _ _ _ r5 gg (Is.bl false))
  | true =>
   obtain ⟨d6,lm,i2,i3⟩:=pO f9
   obtain ⟨i4,rfl⟩:=qe i3
   exact iteT ⟨G,I5,_,d6,_,r5,i2,λz' H6 I6 r6 g6 h6=>nM _ _ _ i4 B G I6 H6 Y _ z z' Q r6 (h4.mono (g5.trans g6).up) h6 (k.after (gg.trans g6))⟩
theorem IP (ha:ED X B a ga) (hb:ED X B b gb) (hc:ED X B c gc) (hd:ED X B c' gd) (hm:lastMarks [.LtE,.Lt,.Lt] [b,c,c']=false:=by with_unfolding_all rfl):ED X B (.Compare a [.LtE,.Lt,.Lt] [b,c,c'] pos) (chn3 leI ltI ltI ga gb gc gd):=PE.imp (HE se uU uU ha hb hc hd hm) (Iw qP qP qP)
end
end DL
namespace DL
open PySem PySem.W PySem.Spec PyProof.Rows L2
section
variable {X:Cx}{B:BB}{a b e:Expr}{ga gb:M D}{pos:Pos}{kr:Nat}
noncomputable def txt (i:Int):Str:=ofString (toString i)
noncomputable def strIF (ds:List D):Option D:=match ds with
 | [.int i]=>if i.natAbs < 1000 then some (.str (txt i)) else none
 | _=>none
theorem HN {i:Int} (h:i.natAbs < 1000):i.natAbs.log2 < 1920:=by
 by_cases z:i.natAbs=0
 ·rw [z];decide
 ·have:i.natAbs.log2 < 10:=(Nat.log2_lt z).mpr (by omega)
  omega
theorem xW {p:Pos}{t:M (List D)} (hg:Gl X "str") (hm:X.mg "str"=none) (ha:AD X B [e] t) (he:starEach [e] X.env=(false,eval e X.env)::starEach [] X.env:=by rfl) (aA:(backTo pos (starEach [] X.env)).any (·.1)=false:=by rfl) :
  ED X B (.Call (.Name "str" p) [e] [] pos) (fn1 strIF t):=wf JF (λds d e B G I H Y Γ xs Q r h k=>by
 unfold strIF at e
 split at e
 ·obtain ⟨ok,rfl⟩:=ql e
  obtain ⟨y,rfl,hx⟩:=h.one
  rw [pY hx]
  exact ⟨_,rfl,HN ok,k.now r (Is.str _)⟩
 ·cases e) hg hm boot_str ha (by decide) (by decide) he aA
noncomputable def lenSF (ds:List D):Option D:=match ds with
 | [.str x]=>if x.length<=1000 then some (.int x.length) else none
 | _=>none
theorem xM {p:Pos}{t:M (List D)} (hg:Gl X "len") (hm:X.mg "len"=none) (ha:AD X B [e] t) (he:starEach [e] X.env=(false,eval e X.env)::starEach [] X.env:=by rfl) (aA:(backTo pos (starEach [] X.env)).any (·.1)=false:=by rfl) :
  ED X B (.Call (.Name "len" p) [e] [] pos) (fn1 lenSF t):=sd ID (λds d e B G I H Y Γ xs Q r h k=>by
 unfold lenSF at e
 split at e
 ·obtain ⟨ok,rfl⟩:=ql e
  obtain ⟨y,rfl,hx⟩:=h.one
  rw [qy hx]
  exact ⟨_,rfl,rJ (le_trans ok (by decide)),k.now r (Is.int _)⟩
 ·cases e) hg hm PySem.boot_len ha (by decide) (by decide) he aA
noncomputable def ixSF (a b:D):Option D:=match a,b with
 | .str z,.int i=>if 0<=i/\i < 1000 then match z.cps[i.toNat]? with
  | some c=>some (.str ⟨#[c]⟩)
  | none=>none
  else none
 | _,_=>none
theorem x0 (ha:ED X B a ga) (hb:ED X B b gb) (hs:PlainIxT b:=by exact λ_ _=>rfl):ED X B (.Subscript a b pos) (op2 ixSF ga gb):=PE.imp (KJ ha hb hs) (t_op λa b d e B G I H Y Γ x y Q r hx hy k=>by
 unfold ixSF at e
 split at e
 ·rename_i z i
  split at e
  ·rename_i hi
   split at e
   ·rename_i c hc
    cases e
    have:i.toNat < z.cps.size:=by
     rcases lt_or_ge i.toNat z.cps.size with q | q
     ·exact q
     ·rw [getElem?_eq_none q] at hc;cases hc
    exact ⟨z,i,c,qy hx,pY hy,hi.1,Int.lt_of_lt_of_le hi.2 (by decide),by show i < (z.cps.size:Int);omega,hc,k.now r (Is.str _)⟩
   ·cases e
  ·cases e
 ·cases e)
theorem Jr:OpR X (compareOp .NotIn) (λx y H Q=>∃ i j,x=.str i/\y=.str j/\Q (.bl (!(!(occurrences j i 0 j.length 1).isEmpty))) H):=by
 intro U s Y H x y v u Q I rx ry h
 obtain ⟨i,j,rfl,rfl,q⟩:=h
 obtain ⟨t,rfl⟩:=rx
 obtain ⟨t',rfl⟩:=ry
 exact notIn_str (Bq I q rfl)
noncomputable def ninSF (a b:D):Option D:=match a,b with
 | .str i,.str j=>some (.bl (occurrences j i 0 j.length 1).isEmpty)
 | _,_=>none
theorem xb (ha:ED X B a ga) (hb:ED X B b gb) (hm:behindInMarks .NotIn b=false:=by first | exact nomark _ | rfl):ED X B (.Compare a [.NotIn] [b] pos) (op2 ninSF ga gb):=ya Jr (λa b d e B G I H Y Γ x y Q r hx hy k=>by
 unfold ninSF at e
 split at e
 ·cases e
  refine ⟨_,_,qy hx,qy hy,?_⟩
  rw [Bool.not_not]
  exact k.now r (Is.bl _)
 ·cases e) ha hb hm
theorem AA:∀ {ts:List Str}{ac:List Value},Vals (ts.map V.str) ac->∃ l:List (Str×Tok),strValues l=ac/\l.map (·.1)=ts
 | [],ac,h=>by cases h;exact ⟨[],rfl,rfl⟩
 | t::ts,ac,h=>by
  cases h with
  | cons h1 h2 =>
   obtain ⟨u,rfl⟩:=h1
   obtain ⟨l,e1,e2⟩:=AA h2
   exact ⟨(t,u)::l,by rw [← e1];rfl,by rw [map_cons,e2]⟩
theorem E5:MtR X "str.join" (λx xs H Q=>∃ sep p texts,x=.str sep/\xs=[.ref p]/\SqL X.K H p (texts.map V.str)/\JoinOk sep texts=true/\Q (.str (Txt.join sep texts)) H):=by
 intro U s Y H x xs v us Q I rx rs h
 obtain ⟨sep,p,texts,rfl,rfl,hq,ok,q⟩:=h
 obtain ⟨t,rfl⟩:=rx
 obtain ⟨u,rfl,ru⟩:=vals1 rs
 cases ru
 obtain ⟨ac,rv,pl,hz⟩:=I.list hq
 obtain ⟨l,e1,e2⟩:=AA rv
 subst e1
 exact SC.join pl.isList e2 ok λt' k=>⟨.str _,H,I.tok _,⟨_,rfl⟩,q⟩
noncomputable def strsD:List D->Option (List Str)
 | []=>some []
 | .str x::ds=>match strsD ds with
  | some ts=>some (x::ts)
  | none=>none
 | _=>none
theorem Bv:∀ {ds:List D}{ts:List Str},strsD ds=some ts->ds=ts.map D.str
 | [],ns,h=>by cases h;rfl
 | d::ds,ns,h=>by
  cases d<;>try cases h
  rw [strsD] at h
  cases e:strsD ds with
  | none=>rw [e] at h;cases h
  | some ms=>rw [e] at h;cases h;rw [map_cons,← Bv e]
theorem zT:∀ (ts:List Str),strsD (ts.map D.str)=some ts
 | []=>rfl
 | n::ns=>by rw [map_cons,strsD,zT ns]
theorem CG {K:PySem.W.Frag}{I:Hp}:∀ {ts:List Str}{zs:List V},IsA K I (ts.map D.str) zs->zs=ts.map V.str
 | [],zs,h=>h.nil_inv
 | n::ns,zs,h=>by
  obtain ⟨x,r,rfl,h1,h2⟩:=IsA.cons_inv h
  rw [CG h2,qy h1];rfl
noncomputable def joinF (x:Str) (ds:List D):Option D:=match ds with
 | [.lst xs]=>match strsD xs with
  | some ts=>if JoinOk x ts=true then some (.str (Txt.join x ts)) else none
  | none=>none
 | _=>none
theorem uk {x:Str}{j:Nat}{p1 aQ av:Pos}{t:M (List D)} (ha:AD X B [e] t)
  (bD:attributeBase (.Constant (.str x) j p1) "join" X.env (eval (.Constant (.str x) j p1) X.env)=eval (.Constant (.str x) j p1) X.env:=by rfl)
  (cj:((backTo av (starEach [e] X.env)).all (λx=>!x.1)&&(backToKw av (keywordEach [] X.env)).all (λx=>x.1.isSome)&&decide ([e].length+([]:List Keyword).length+(if ([]:List Keyword).isEmpty then 0 else 1) < 30))=true:=by rfl)
  (bE:(aQ.endLine == av.line)=true:=by rfl) (hs:starEach [e] X.env=(false,eval e X.env)::starEach [] X.env:=by rfl) (aZ:(backTo av (starEach [] X.env)).any (·.1)=false:=by rfl) :
  ED X B (.Call (.Attribute (.Constant (.str x) j p1) "join" aQ) [e] [] av) (fn1 (joinF x) t) :=
 PE.imp (uE PySem.F.plainAttrs_str PySem.F.slot_str_join PySem.F.type_str_join E5 BU ha bD cj bE hs aZ) λY H Q q=>by
  obtain ⟨G,I,Γ,d,aa,r,e1,k⟩:=q
  obtain ⟨ds,Z,e2,e3⟩:=pO e1
  obtain ⟨e4,rfl⟩:=qe e3
  unfold joinF at e4
  split at e4
  ·split at e4
   ·rename_i ts et
    obtain ⟨ok,rfl⟩:=ql e4
    have:=Bv et
    subst this
    refine ⟨rfl,G,I,Γ,_,_,r,e2,λvs H1 I1 r1 g1 h1=>?_⟩
    obtain ⟨y,rfl,hy⟩:=h1.one
    obtain ⟨q,zs,rfl,h3,h4⟩:=qi hy
    have:=CG h4
    subst this
    exact ⟨x,q,ts,rfl,rfl,(Same.rdK r1.iH h3).sq,ok,k _ _ _ r1 g1 (Is.str _)⟩
   ·cases e4
  ·cases e4
theorem AW:∀ (l:List (Str×Tok)),Vals ((l.map (·.1)).map V.str) (strValues l)
 | []=>.nil
 | (x,t)::l=>.cons ⟨t,rfl⟩ (AW l)
theorem yB {U:List (Addr×Obj)}{Y:L2.St}{H:Hp}{s:Shared}{l:List (Str×Tok)}{tk:Nat}{Q:VK} (I:Inv X U Y H s) (hl:l.length<=sizeLine) (q:∀ p,H p=none->Q (.ref p) (upd H p (.lst ((l.map (·.1)).map V.str)))) :
  EP X U Y Q (.ref s.heap.objs.size) { s with toks:=tk,heap:=s.heap.push { cls:=.type "list", data:=.seq (strValues l).toArray } } :=
 ⟨.ref s.heap.objs.size,_,I.laid (t':=tk) (λb o e=>get?_push_of_some _ e) (le_refl _) (show ObjOk X.prog X.w _ _ _ (.lst ((l.map (·.1)).map V.str)) from ⟨by simpa using hl,strValues l,0,AW l,get?_push_size _ rfl⟩),rfl,q _ (I.hok.fresh (le_refl _))⟩
theorem Ed:MtR X "str.split" (λv xs H Q=>∃ x y:Str,v=.str x/\xs=[.str y]/\(y.length == 0)=false/\x.length<=1000/\∀ l,H l=none->Q (.ref l) (upd H l (.lst ((Txt.split x y).map V.str)))):=by
 intro U s Y H v xs u us Q I rx rs h
 obtain ⟨x,y,rfl,rfl,hy,hx,q⟩:=h
 obtain ⟨t,rfl⟩:=rx
 obtain ⟨u,rfl,ru⟩:=vals1 rs
 obtain ⟨t',rfl⟩:=ru
 have line:2000<=sizeLine:=by rw [sizeLine_eq];decide
 have few:=split_le x y
 cases h1:(decide (x.length < y.length)||decide (Builtin.Str.strKind x < Builtin.Str.strKind y))
 ·cases hf:(occurrences x y 0 x.length (x.length+1)).isEmpty
  ·have e:Txt.split x y=Builtin.Str.partsBetween x (occurrences x y 0 x.length (x.length+1)) y.length:=by
    unfold Txt.split;rw [h1,hf];rfl
   have e2:=numbered_texts s.toks (Txt.split x y)
   have ln:(numbered s.toks (Txt.split x y)).length<=sizeLine:=by
    have:=congrArg length e2;rw [length_map] at this;omega
   have m:=meets_str_split_sep x y t t' h1 hy hf (by omega) (by rw [← e];omega)
   rw [← e] at m
   rw [← e2] at q
   have z:=yB (tk:=s.toks+(Txt.split x y).length) I ln q
   rw [← strsFrom_eq] at z
   exact call_meets F.slot_str_split (typeIs_str s x t) F.entry_str_split (F.args_str_split_2 _ _) m z
  ·have e:Txt.split x y=[x]:=by unfold Txt.split;rw [h1,hf];rfl
   rw [e] at q
   exact call_meets F.slot_str_split (typeIs_str s x t) F.entry_str_split (F.args_str_split_2 _ _) (meets_str_split_not_found x y t t' h1 hy hf) (yB (l:=[(x,t)]) I (by simp;omega) q)
 ·have e:Txt.split x y=[x]:=by unfold Txt.split;rw [h1];rfl
  rw [e] at q
  exact call_meets F.slot_str_split (typeIs_str s x t) F.entry_str_split (F.args_str_split_2 _ _) (meets_str_split_cannot_occur x y t t' h1) (yB (l:=[(x,t)]) I (by simp;omega) q)
noncomputable def splitF (a:D) (ds:List D):Option (List D):=match a,ds with
 | .str x,[.str y]=>if (y.length == 0)=false/\x.length<=1000 then some ((Txt.split x y).map D.str) else none
 | _,_=>none
noncomputable def splS (i:Nat) (t:M (List D)):M (List D):=bnd (nm i) λa=>bnd t λds=>lft (splitF a ds)
theorem Bl {K:PySem.W.Frag}{I:Hp}:∀ (ts:List Str),IsA K I (ts.map D.str) (ts.map V.str)
 | []=>IsA.nil
 | t::ts=>IsA.cons (Is.str t) (Bl ts)
theorem rc {i:Nat}{z:Str}{p1 aQ av:Pos}{t:M (List D)} (hv:ED X B (.Name z p1) (nm i)) (ha:AD X B [e] t)
  (bD:attributeBase (.Name z p1) "split" X.env (eval (.Name z p1) X.env)=eval (.Name z p1) X.env:=by rfl)
  (cj:((backTo av (starEach [e] X.env)).all (λx=>!x.1)&&(backToKw av (keywordEach [] X.env)).all (λx=>x.1.isSome)&&decide ([e].length+([]:List Keyword).length+(if ([]:List Keyword).isEmpty then 0 else 1) < 30))=true:=by rfl)
  (bE:(aQ.endLine == av.line)=true:=by rfl) (hs:starEach [e] X.env=(false,eval e X.env)::starEach [] X.env:=by rfl) (aZ:(backTo av (starEach [] X.env)).any (·.1)=false:=by rfl) :
  EO X B (.Call (.Attribute (.Name z p1) "split" aQ) [e] [] av) (splS i t) :=
 PE.imp (uE PySem.F.plainAttrs_str PySem.F.slot_str_split PySem.F.type_str_split Ed hv ha bD cj bE hs aZ) λY H Q q=>by
  obtain ⟨G,I,Γ,d,aa,r,e1,k⟩:=q
  obtain ⟨d1,Z,e2,e3⟩:=pO e1
  obtain ⟨ds,ah,e4,e5⟩:=pO e3
  obtain ⟨e6,rfl⟩:=qe e5
  unfold splitF at e6
  split at e6
  ·rename_i x y
   obtain ⟨ok,rfl⟩:=ql e6
   refine ⟨G,I,Γ,_,Z,r,e2,λv H1 I1 r1 g1 h1=>?_⟩
   rw [qy h1]
   refine ⟨rfl,G,I1,Z,_,_,r1,e4,λvs H2 I2 r2 g2 h2=>?_⟩
   obtain ⟨w,rfl,hw⟩:=h2.one
   rw [qy hw]
   exact ⟨x,y,rfl,rfl,ok.1,ok.2,λl hl=>(k.after (g1.trans g2)).new r2 hl (Bl _)⟩
  ·cases e6
noncomputable def Its (x:Str):It:=⟨λi _=>i < x.cps.size,λi H v H'=>H'=H/\∃ c,x.cps[i]?=some c/\v=.str ⟨#[c]⟩,λi _=>x.cps.size<=i⟩
theorem Ga {P:Program}{w:World}{K:PySem.W.Frag}{tg:Expr} (x:Str) (t:Tok) (it:Addr):Turn P w K tg (Its x) [it] it (λi h=>h.IsStrIter it "str_ascii_iterator" x t i) where
 mem:=mem_singleton.mpr rfl
 obj:=λi h st b hb=>by
  obtain rfl:=mem_singleton.mp hb
  obtain ⟨o,e,c,d⟩:=st
  exact ⟨o,e,λv z=>by rw [d] at z;cases z⟩
 keep:=λi h h' ⟨o,e,r⟩ k=>⟨o,k it (mem_singleton.mpr rfl) o e,r⟩
 item:=by
  intro X hP hw hK hc i U s Y H E I hf st hg
  subst hP hw hK
  obtain ⟨f0,f1,f2,f3,f4,f5⟩:=hf it (mem_singleton.mpr rfl)
  have hx:x.cps[i]?=some x.cps[i]:=Array.getElem?_eq_getElem hg
  refine wpAny_pyNext_ascii_item st hx λh' cS sb=>?_
  have I1:Inv X U Y H { s with heap:=h',toks:=s.toks+1 }:=I.turned (t':=s.toks+1) (λb o hb e=>(sb.2 b hb).trans e) f0 f1 f3 f4 f5
  obtain ⟨o,e,c,d⟩:=id cS
  exact ⟨_,rfl,uX (s:={ s with heap:=h',toks:=s.toks+1 }) e c d (by decide) ⟨.str _,H,I1,⟨_,rfl⟩,⟨rfl,_,hx,rfl⟩,cS,λb hb=>(hf b hb).1⟩⟩
 done:=by
  intro X hP hw hK hc i U s Y H E I hf st hg
  subst hP hw hK
  obtain ⟨f0,f1,f2,f3,f4,f5⟩:=hf it (mem_singleton.mpr rfl)
  exact wpAny_pyNext_ascii_end (I.ok.hd hc) st (getElem?_eq_none hg) λh' eb=>⟨rfl,I.turned (t':=s.toks) (λb o hb e=>eb b o hb e) f0 f1 f3 f4 f5⟩
 self:=λ_ _ _ _ _ st h=>wpAny_pyIter_striter_ascii st h
theorem FX {tg l:Expr}{tl:TE} (hl:PE X l tl):PI X tg l (λY H R=>tl Y H λv H1=>∃ x:Str,v=.str x/\x.cps.all (· < 128)=true/\R (Its x) H1):=by
 intro U s Y H R I h
 refine thn (hl U s Y H _ I h) λv s1 ⟨x',H1,I1,r1,x,e,hx,q⟩=>?_
 subst e
 obtain ⟨t,rfl⟩:=r1
 refine wpAny_pyIter_ascii hx ⟨s1.heap.objs.size,[s1.heap.objs.size],_,_,H1,rfl,I1.kept (t':=s1.toks) λb o e=>get?_push_of_some _ e,Ga x t _,⟨_,get?_push_size _ rfl,rfl,rfl⟩,λb hb=>?_,q⟩
 obtain rfl:=mem_singleton.mp hb
 exact I1.fpOk (le_refl _) (I1.hok.fresh (le_refl _))
noncomputable def signsD (d:D):Option (List D):=match d with
 | .str x=>if x.cps.all (· < 128)=true then some (x.cps.toList.map λc=>.str ⟨#[c]⟩) else none
 | _=>none
noncomputable def itT (g:M D):M (List D):=bnd g λd=>lft (signsD d)
theorem yc {tg:Expr} (ha:ED X B a ga):ITD X B tg a (itT ga):=PI.imp (FX ha) λY H R q=>by
 obtain ⟨G,I,Γ,ds,aa,r,e1,k⟩:=q
 obtain ⟨d,Z,e2,e3⟩:=pO e1
 obtain ⟨e4,rfl⟩:=qe e3
 unfold signsD at e4
 split at e4
 ·rename_i x
  obtain ⟨ok,rfl⟩:=ql e4
  refine ⟨G,I,Γ,_,_,r,e2,λv H1 I1 r1 g1 hd=>⟨x,qy hd,ok,k _ _ _ r1 g1 λi H2 hs=>⟨λd he=>?_,λhe=>?_⟩⟩⟩
  ·rw [getElem?_map,map_eq_some_iff] at he
   obtain ⟨c,hc,rfl⟩:=he
   rw [Array.getElem?_toList] at hc
   have hi:i < x.cps.size:=(Array.getElem?_eq_some_iff.mp hc).1
   refine ⟨hi,λy H3 ⟨e5,c',e6,e7⟩=>.inl ⟨e5,?_⟩⟩
   rw [hc] at e6
   cases e6
   rw [e7]
   exact Is.str _
  ·have:x.cps.size<=i:=by simpa using he
   exact this
 ·cases e4
end
end DL
namespace DL
open PySem PySem.Spec PyProof.Rows L2 PySem.W
theorem objThere {P:Program}{w:World}{H:Hp}{h:Heap}{a:Addr}:∀ {o:HO},ObjOk P w H h a o->∃ u,h.get? a=some u
 | .lst _,⟨_,_,_,_,e⟩=>⟨_,e⟩
 | .tup _,⟨_,_,_,_,e,_⟩=>⟨_,e⟩
 | .dK _,⟨_,_,_,_,_,_,_,e,_⟩=>⟨_,e⟩
 | .dT _,⟨_,_,_,_,_,_,_,e,_⟩=>⟨_,e⟩
 | .set _ _,⟨_,_,_,_,e,_⟩=>⟨_,e⟩
 | .ins _ _ _,⟨_,_,_,e,_⟩=>⟨_,e⟩
 | .own _,⟨_,e⟩=>⟨_,e⟩
 | .xd _,⟨_,⟨_,_,_,e,_⟩,_⟩=>⟨_,e⟩
 | .rng _ _,⟨_,_,_,e⟩=>⟨_,e⟩
 | .frz _ _,⟨e,_⟩=>⟨_,e⟩
 | .tbl _,x=>by first | exact ⟨_,x⟩ | (obtain ⟨_,e,_⟩:=x;exact ⟨_,e⟩)
 | .met _ _,e=>⟨_,e⟩
 | .ext _,⟨_,e,_⟩=>e
def Lasts (h h':Heap):Prop:=∀ b o,h.get? b=some o->∃ o',h'.get? b=some o'
theorem Lasts.none {h h':Heap} (l:Lasts h h'){b:Addr} (e:h'.get? b=none):h.get? b=none:=by
 cases z:h.get? b with
 | none=>rfl
 | some o=>obtain ⟨_,q⟩:=l b o z;rw [e] at q;cases q
def Flies (H:Hp) (h₀ h:Heap) (a C:Addr):Prop:=∃ oe vs a0,h.get? a=some oe/\oe.cls=.ref C/\oe.data=.fields vs/\vs[0]?=some a0/\H a=none/\h₀.get? a=none ∧
 (vs[1]?=some .none\/∃ T oT ts,vs[1]?=some (.ref T)/\T≠a/\h.get? T=some oT/\oT.data=.fields ts/\3 < ts.size/\H T=none/\h₀.get? T=none)
theorem Flies.back {H:Hp}{aH h₀ h:Heap}{a C:Addr} (F:Flies H h₀ h a C) (l:Lasts aH h₀):Flies H aH h a C:=by
 obtain ⟨oe,vs,a0,e1,e2,e3,e4,e5,e6,e7⟩:=F
 refine ⟨oe,vs,a0,e1,e2,e3,e4,e5,l.none e6,e7.imp id ?_⟩
 rintro ⟨T,oT,ts,f1,f2,f3,f4,f5,f6,f7⟩
 exact ⟨T,oT,ts,f1,f2,f3,f4,f5,f6,l.none f7⟩
structure Turn (H:Hp) (h₀ h h':Heap) (fr ch:List Addr):Prop where
 new:∀ b∈ch,H b=none/\h₀.get? b=none/\∃ o vs,h.get? b=some o/\o.data=.fields vs
 keep:∀ b o,h.get? b=some o->b∉ch->b∉fr->h'.get? b=some o
 slot:∀ b o,h.get? b=some o->b∈fr->∃ sl,h'.get? b=some { o with slots:=sl }
section
variable {P:Program}{w:World}{H:Hp}{h₀ h h' base:Heap}{l:List Env}{ch:List Addr}{a C:Addr}{a0:Value}
theorem uP (hl:h.FunFrames base l) (new:∀ b∈ch,H b=none/\h₀.get? b=none/\∃ o vs,h.get? b=some o/\o.data=.fields vs) (st:(hideAll h (ch++frs l)).StaysIn h') (up:h.UpToSlots h'):Turn H h₀ h h' (frs l) ch :=
 ⟨new,λb o e n1 n2=>st b o (hideAll_get _ e λm=>(mem_append.mp m).elim n1 n2),λb o e m=>up b o e (by
  obtain ⟨_,o',e',d⟩:=hl.mem m
  rw [e] at e';cases e'
  exact d)⟩
theorem yE (hok:HOk P w H h) (th:Lasts h₀ h) (hl:h.FunFrames base l) (T:Turn H h₀ h h' (frs l) ch) (ha:a∈ch){fl:Value} (t:h'.TracedAtW (hideAll h (ch++frs l)) a (.ref C) a0 fl):Flies H h₀ h' a C:=by
 obtain ⟨oe,vs,T',oT,ts,e1,⟨e2,e3⟩,e4,e5,e6,e7,e8,e9,jN⟩:=t
 have q:H T'=none/\h₀.get? T'=none:=by
  by_cases m:T'∈ch
  ·exact ⟨(T.new _ m).1,(T.new _ m).2.1⟩
  by_cases m2:T'∈frs l
  ·exfalso
   obtain ⟨_,o,eo,d⟩:=hl.mem m2
   obtain ⟨sl,es⟩:=T.slot _ _ eo m2
   rw [e8] at es;cases es
   exact d ts e9
  have n:h.get? T'=none:=by
   cases z:h.get? T' with
   | none=>rfl
   | some o=>rw [hideAll_get _ z λq=>(mem_append.mp q).elim m m2] at e6;cases e6
  refine ⟨?_,th.none n⟩
  cases z:H T' with
  | none=>rfl
  | some o=>obtain ⟨u,z2⟩:=objThere (hok _ _ z);rw [n] at z2;cases z2
 exact ⟨oe,vs,a0,e1,e2,e4,e3,(T.new a ha).1,(T.new a ha).2.1,.inr ⟨T',oT,ts,e5,e7,e8,e9,(Array.getElem?_eq_some_iff.mp jN).1,q.1,q.2⟩⟩
theorem vA (hl:h.FunFrames base l):h.FunFrames (hideAll h (ch++frs l)) l:=funFrames_hide hl λenv he b hb=>mem_append_right _ (mem_filterMap.mpr ⟨env,he,hb⟩)
variable {M:Model}{A:Around}{E:Value->Shared->Prop}{s:Shared}{Q:Unit->Shared->Prop}{env:Env}{outer:List Env}{L:Addr}
theorem CH (fo:A.frames=some (env::outer)) (hf:env.frame=some L) (hl:s.heap.FunFrames base (env::outer)) (hok:HOk P w H s.heap) (th:Lasts h₀ s.heap) (F:Flies H h₀ s.heap a C)
  (k:∀ h' ch a0 fl,a∈ch->Turn H h₀ s.heap h' (frs (env::outer)) ch->(hideAll s.heap (ch++frs (env::outer))).StaysIn h'->h'.FunFrames (hideAll s.heap (ch++frs (env::outer))) (env::outer)->h'.TracedAtW (hideAll s.heap (ch++frs (env::outer))) a (.ref C) a0 fl->Q () { s with heap:=h' }):wpAny M A (noteFrame (.ref a) env) Q E s:=by
 obtain ⟨oe,vs,a0,e1,e2,e3,e4,e5,e6,e7⟩:=F
 rcases e7 with e7 | ⟨T,oT,ts,f1,f2,f3,f4,f5,f6,f7⟩
 ·unfold noteFrame
  simp only [hf]
  refine wpAny_bind (wpAny_field e1 e3 e7 ?_)
  rw [if_neg (by decide)]
  refine wpAny_entryW (base:=hideAll s.heap ([a]++frs (env::outer))) fo (vA hl) hf e1 (λb o q=>of_hideAll _ q) (hideAll_none _ (.head _)) e3 (Array.getElem?_eq_some_iff.mp e7).1 e4 λh' hN=>?_
  obtain ⟨k1,k2,k3,k4⟩:=hN
  rw [e2] at k3
  exact k h' [a] a0 _ (.head _) (uP hl (λb hb=>by rw [mem_singleton.mp hb];exact ⟨e5,e6,_,_,e1,e3⟩) k1 k4) k1 k2 k3
 have new:∀ b∈[a,T],H b=none/\h₀.get? b=none/\∃ o vs,s.heap.get? b=some o/\o.data=.fields vs:=λb hb=>by
  rcases mem_cons.mp hb with z | z
  ·rw [z];exact ⟨e5,e6,_,_,e1,e3⟩
  ·rw [mem_singleton.mp z];exact ⟨f6,f7,_,_,f3,f4⟩
 have f8:ts[3]?=some ts[3]:=Array.getElem?_eq_getElem f5
 unfold noteFrame
 simp only [hf]
 refine wpAny_bind (wpAny_field e1 e3 f1 ?_)
 rw [if_pos (show (Value.ref T != Value.none)=true by simp)]
 refine wpAny_bind (wpAny_field f3 f4 f8 ?_)
 by_cases hz:(ts[3] == rawInt L)=true
 ·rw [if_pos hz]
  exact wpAny_pure (k s.heap [a,T] a0 ts[3] (.head _) (uP hl new (λb o q=>of_hideAll _ q) (.refl _)) (λb o q=>of_hideAll _ q) (vA hl) ⟨oe,vs,T,oT,ts,e1,⟨e2,e4⟩,e3,f1,hideAll_none _ (.tail _ (.head _)),f2,f3,f4,f8⟩)
 rw [if_neg hz]
 refine wpAny_bind (wpAny_setField f3 f4 f5 ?_)
 have b7:∀ b,b≠T->(s.heap.update T (mapFields (·.setIfInBounds 3 Value.none))).get? b=s.heap.get? b:=λb hb=>get?_update_other _ _ (Ne.symm hb)
 have lr:∀ b o,s.heap.get? b=some o->(∀ vs,o.data≠.fields vs)->b≠T:=λb o q n z=>by
  rw [z,f3] at q;cases q;exact n ts f4
 refine wpAny_entryW (base:=hideAll s.heap ([a,T]++frs (env::outer))) (oe:=oe) fo ((vA hl).of_keeps λb o q n=>⟨o,(b7 b (lr b o q n)).trans q,rfl⟩) hf ((b7 a (Ne.symm f2)).trans e1) (λb o q=>(b7 b λz=>by have n:(hideAll s.heap ([a,T]++frs (env::outer))).get? T=none:=hideAll_none _ (.tail _ (.head _));rw [z,n] at q;cases q).trans (of_hideAll _ q)) (hideAll_none _ (.head _)) e3 (Array.getElem?_eq_some_iff.mp f1).1 e4 λh' hN=>?_
 obtain ⟨k1,k2,k3,k4⟩:=hN
 rw [e2] at k3
 exact k h' [a,T] a0 _ (.head _) (uP hl new k1 λb o q n=>k4 b o ((b7 b (lr b o q n)).trans q) n) k1 k2 k3
theorem Cy (fo:A.frames=some (env::outer)) (hf:env.frame=some L) (hl:s.heap.FunFrames base (env::outer)) (hok:HOk P w H s.heap) (th:Lasts h₀ s.heap) (F:Flies H h₀ s.heap a C)
  (k:∀ h' ch,Turn H h₀ s.heap h' (frs (env::outer)) ch->Flies H h₀ h' a C->Q () { s with heap:=h' }):wpAny M A (noteFrame (.ref a) env) (λ_ aq=>wpAny M A (setFlight (.ref a) none) Q E aq) E s:=by
 refine CH fo hf hl hok th F λh1 ch a0 fl ha T k1 k2 k3=>?_
 refine wpAny_setFlight_noneW k1 k2 k3 λh2 j1 j2 j3 j4=>?_
 have T2:Turn H h₀ s.heap h2 (frs (env::outer)) ch:=⟨T.new,λb o e n1 n2=>j1 b o (hideAll_get _ e λm=>(mem_append.mp m).elim n1 n2),λb o e m=>by
  obtain ⟨sl,q⟩:=T.slot b o e m
  obtain ⟨_,o',e',d⟩:=hl.mem m
  rw [e] at e';cases e'
  exact ⟨sl,j4 b _ q d⟩⟩
 exact k h2 ch T2 (yE hok th hl T2 ha j3)
theorem Kx (fo:A.frames=some (env::outer)) (hf:env.frame=some L) (hl:s.heap.FunFrames base (env::outer)) (hok:HOk P w H s.heap) (th:Lasts h₀ s.heap) (F:Flies H h₀ s.heap a C)
  (k:∀ h' ch,Turn H h₀ s.heap h' (frs (env::outer)) ch->Flies H h₀ h' a C->Q () { s with heap:=h' }):wpAny M A (leaving env (.ref a)) Q E s:=by
 unfold leaving
 exact wpAny_bind (Cy fo hf hl hok th F k)
end
noncomputable def CXX (P:Program) (w:World):CXT:=λouter H s E e s'=>∃ a C H',e=.ref a/\s'.os=s.os/\AllBare s'.gens/\Un (frs outer) [] H H' s.heap s'.heap/\HOk P w H' s'.heap/\Flies H' s.heap s'.heap a C/\E (.ref C) none H'
def Xz (X:Cx) (C:Addr) (Y:L2.St) (H:Hp):Prop:=∀ U s aH a,Inv X U Y H s->(∀ b o,X.s₀.heap.get? b=some o->b∉X.ex->∃ o',aH.get? b=some o')->(∀ p∈X.pn++U,∃ o,aH.get? p.1=some o)->Lasts aH s.heap->Flies H aH s.heap a C->X.xe (.ref a) s
theorem Turn.hok {X:Cx}{U:List (Addr×Obj)}{Y:L2.St}{H:Hp}{s:Shared}{h₀ h':Heap}{ch:List Addr} (T:Turn H h₀ s.heap h' (frs X.stack) ch) (I:Inv X U Y H s):HOk X.prog X.w H h':=λb u e=>by
 have no:∀ c v,H c=some v->c∉ch/\c∉frs X.stack:=λc v q=>⟨λm=>(by rw [(T.new c m).1] at q;cases q),λm=>(by rw [I.stkFree c m] at q;cases q)⟩
 refine (I.hok b u e).stay (λc v hc q=>?_) (λ_ q=>q) (λ_ _ q=>q)
 rcases hc with rfl | z
 ·exact T.keep c v q (no c u e).1 (no c u e).2
 ·exact T.keep c v q (no c _ z).1 (no c _ z).2
section
variable {P:Program}{w:World}{K:PySem.W.Frag}{mg:Str->Option Value}{base:Heap}{N:List Str}{qual:Str}{scope:Scope}{f:Addr}{ao:Value}{A:Around}{outer:List Env}{s:Shared}{H H':Hp}{E:XK}{C:Addr}{Y:L2.St}
theorem G4 (he:E (.ref C) none H'):Xz (cxOf (CXX P w) P w K mg base N qual scope f ao A outer s H E) C Y H':=λU s1 aH a I c1 c2 c3 F=>by
 refine Kx I.ok.frames rfl I.stack I.hok c3 F λh' ch T F'=>?_
 have ls:Lasts s.heap aH:=λb o e=>c1 b o e (λz=>nomatch z)
 have ce:∀ b o,s.heap.get? b=some o->b∉ch:=λb o e m=>by
  obtain ⟨_,q⟩:=ls b o e
  rw [(T.new b m).2.1] at q;cases q
 have nN:∀ b o,s.heap.get? b=some o->b∉frs outer->b∉frs (envOfC qual scope s.heap.objs.size f ao::outer):=λb o e n m=>by
  rcases mem_cons.mp (I.stkSub b m) with z | z
  ·exact absurd (lt_size e) (by rw [z];exact lt_irrefl _)
  ·exact n z
 refine ⟨a,C,H',rfl,I.os,I.bare,⟨λb o e n hb _=>T.keep b o (I.base.keep b o e n hb (λz=>nomatch z)) (ce b o e) (nN b o e hb),λb o e n hb _=>?_,λb o e n _=>I.base.free b o e n (λz=>nomatch z),λb o e _=>?_,I.base.tups,I.base.frzs,?_⟩,T.hok I,F'.back ls,he⟩
 ·obtain ⟨sl,e1⟩:=I.base.slot b o e n hb (λz=>nomatch z)
  obtain ⟨iM,e2⟩:=T.slot b _ e1 (by unfold frs;rw [filterMap_cons];exact mem_cons_of_mem _ hb)
  exact ⟨iM,e2⟩
 ·obtain ⟨o',e1⟩:=I.base.there b o e (λz=>nomatch z)
  by_cases m:b∈frs (envOfC qual scope s.heap.objs.size f ao::outer)
  ·obtain ⟨sl,e2⟩:=T.slot b _ e1 m;exact ⟨_,e2⟩
  ·exact ⟨_,T.keep b _ e1 (ce b o e) m⟩
 ·exact I.base.tbls
end
noncomputable def tX (X:Cx) (B:BB) (cl:Nat->Addr) (m:M Nat):TE:=λY H _=>∃ G I Γ C aa,Rep X.K B G I H Y Γ/\m Γ=some (C,aa)/\∀ H' I',Rep X.K B G I' H' Y aa->Grow G I I'->Xz X (cl C) Y H'
noncomputable def tSX (X:Cx) (B:BB) (cl:Nat->Addr) (m:M Nat):TS:=λ_ Y H=>∃ G I Γ C aa,Rep X.K B G I H Y Γ/\m Γ=some (C,aa)/\∀ ai H' I',Rep X.K B G I' H' ai aa->Grow G I I'->Xz X (cl C) ai H'
def XD (X:Cx) (B:BB) (cl:Nat->Addr) (e:Expr) (m:M Nat):Prop:=PE X e (tX X B cl m)
def SX (X:Cx) (B:BB) (cl:Nat->Addr) (st:Stmt) (m:M Nat):Prop:=PS X st (tSX X B cl m)
def SXs (X:Cx) (B:BB) (cl:Nat->Addr) (st:List Stmt) (m:M Nat):Prop:=PSs X st (tSX X B cl m)
noncomputable def orX (a b:M Nat):M Nat:=λΓ=>match a Γ with
 | some r=>some r
 | none=>b Γ
noncomputable def thenX (g:M Fl) (m:M Nat):M Nat:=bnd g λf=>match f with
 | .nx=>m
 | _=>λ_=>none
noncomputable def nvX:M Nat:=λ_=>none
theorem AR {X:Cx}{B:BB}{cl:Nat->Addr}{E:Ends}{Y:L2.St}{H:Hp} (q:tSX X B cl nvX E Y H):False:=by obtain ⟨_,_,_,_,_,_,e,_⟩:=q;cases e
section
variable {X:Cx}{B:BB}{cl:Nat->Addr}{st:Stmt}{aw:List Stmt}{g:M Fl}{m m':M Nat}{e:Expr}{es:List Expr}{pos:Pos}
theorem DT:SX X B cl st nvX:=λ_ _ _ _ _ _ q=>(AR q).elim
theorem JD:SXs X B cl aw nvX:=λ_ _ _ _ _ _ q=>(AR q).elim
theorem EX (h:SX X B cl st m):SXs X B cl [st] m:=AS h
theorem Bz (h:SD X B st g) (h1:SX X B cl st m) (h2:SXs X B cl aw m'):SXs X B cl (st::aw) (orX m (thenX g m')):=by
 have hh:PS X st λD Y H=>tS X.K B g D Y H\/tSX X B cl m D Y H:=λU s Y H D I q=>q.elim (h U s Y H D I) (h1 U s Y H D I)
 refine PSs.imp (wS hh h2) λE Y H q=>?_
 obtain ⟨G,I,Γ,C,aa,r,e1,k⟩:=q
 unfold orX at e1
 cases z:m Γ with
 | some y=>rw [z] at e1;cases e1;exact .inr ⟨G,I,Γ,C,aa,r,z,k⟩
 | none =>
  rw [z] at e1
  obtain ⟨f,Z,e2,e3⟩:=pO e1
  refine .inl ⟨G,I,Γ,f,Z,r,e2,λcf H1 I1 r1 g1=>?_⟩
  cases f with
  | nx=>exact ⟨G,I1,Z,C,aa,r1,e3,λai H' I' r' g'=>k ai H' I' r' (g1.trans g')⟩
  | rt _=>cases e3
  | bk=>cases e3
  | ct=>cases e3
noncomputable def ifX (c:M Bool) (a b:M Nat):M Nat:=bnd c λk=>if k then a else b
theorem JM {c:Expr}{tc:M Bool}{sa sb:List Stmt} (hc:TD X B c tc) (ha:SXs X B cl sa m) (hb:SXs X B cl sb m'):SX X B cl (.If c sa sb pos) (ifX tc m m'):=PS.imp (CV hc ha hb) λE Y H q=>by
 obtain ⟨G,I,Γ,C,aa,r,e1,k⟩:=q
 obtain ⟨d,Z,e2,e3⟩:=pO e1
 refine ⟨G,I,Γ,d,Z,r,e2,λH1 I1 r1 g1=>?_⟩
 cases d with
 | true=>exact iteT ⟨G,I1,Z,C,aa,r1,e3,λai H' I' r' g'=>k ai H' I' r' (g1.trans g')⟩
 | false=>exact iteF ⟨G,I1,Z,C,aa,r1,e3,λai H' I' r' g'=>k ai H' I' r' (g1.trans g')⟩
theorem tSX.tX {E:Ends}{Y:L2.St}{H:Hp}{Q:VK} (q:tSX X B cl m E Y H):DL.tX X B cl m Y H Q:=by
 obtain ⟨G,I,Γ,C,aa,r,e1,k⟩:=q
 exact ⟨G,I,Γ,C,aa,r,e1,λH' I'=>k Y H' I'⟩
theorem GV (he:XD X B cl e m):SX X B cl (.Return (some e) pos) m:=PS.imp (yq he) λ_ _ _ q=>q.tX
theorem sW {i:Nat}{x:Str}{aL:Pos} (hN:X.N.Nodup) (he:XD X B cl e m) (hi:X.N[i]?=some x:=by rfl) (hx:locB X.env.scope x=true:=by rfl) (hs:swapsWith e (some (.Name x aL)) pos.line X.env=pure false:=by rfl)
  (hf:fnB X x=true:=by rfl):SX X B cl (.Assign [.Name x aL] e pos) m:=PS.imp (y0 hN hi (locI hx) he hs (fnI hf)) λ_ _ _ q=>q.tX
noncomputable def spE (K:PySem.W.Frag) (cl:Nat->Addr) (gx:List D->Option Nat):Sp:=λvs H _ E=>∃ I ds C,Same I H/\IsA K I ds vs/\gx ds=some C/\∀ H',Same H H'->E (.ref (cl C)) none H'
noncomputable def fnX (gx:List D->Option Nat) (t:M (List D)):M Nat:=bnd t λds=>lft (gx ds)
theorem EW {k:Nat}{f:Addr}{fd:FuncData}{ps:List Str}{gx:List D->Option Nat}{x:Str}{p:Pos}{t:M (List D)} (F:FnOk X.prog X.w X.K X.mg X.base (CXX X.prog X.w) k f fd ps (spE X.K cl gx)) (hr:Room k X.A) (hg:Gl X x) (hm:X.mg x=some (.ref f)) (hk:keepIn X.K (.ref f)=true) (hb:Binds X.K fd ps []) (ha:AD X B (e::es) t)
  (aW:(x == ("__debug__":Str))=false:=by decide) (he:starEach (e::es) X.env=(false,eval e X.env)::starEach es X.env:=by rfl) (aA:(backTo pos (starEach es X.env)).any (·.1)=false:=by rfl) :
  XD X B cl (.Call (.Name x p) (e::es) [] pos) (fnX gx t):=by
 intro U s Y H Q I h
 obtain ⟨G,J,Γ,C,aa,r,e1,kk⟩:=h
 obtain ⟨ds,Z,e2,e3⟩:=pO e1
 obtain ⟨e4,rfl⟩:=qe e3
 refine wpAny_Call_Name_kw (t9 I hg hm ?_ aW)
 refine callWith_K (h₀:=X.base) I.ok.mod.kin hk (thn (ha pos U s Y H (λvs H1=>∃ J1,Rep X.K B G J1 H1 Y aa/\Grow G J J1/\IsA X.K J1 ds vs) I ⟨G,J,Γ,ds,_,r,e2,λvs H1 J1 r1 g1 h1=>⟨J1,r1,g1,h1⟩⟩) λus s1 ⟨vs,H1,I1,rv,J1,r1,g1,h1⟩=>⟨I1.kIn,?_⟩) he aA
 have sp:spE X.K cl gx vs H1 (λ_ _=>False) (λc _ H2=>c=.ref (cl C)/\Same H1 H2):=⟨J1,ds,C,r1.iH,h1,e4,λH' z=>⟨rfl,z⟩⟩
 have hl:us.length=ps.length:=by rw [← rv.length];exact F.len _ _ _ _ sp
 have bb:=hb s1 us I1.kIn (by rw [append_nil];exact hl)
 rw [append_nil] at bb
 refine wpAny_call (codeAny_mono (F.run X.A X.stack s1 H1 ⟨us,[]⟩ us vs _ _ hr I1.env0 bb rv sp) λrr s' hq=>?_)
 cases rr with
 | ok fl =>
  cases fl with
  | ret u=>obtain ⟨_,_,_,_,_,_,_,z⟩:=hq;exact z.elim
  | next=>exact hq.elim
  | brk=>exact hq.elim
  | cont=>exact hq.elim
 | error ex =>
  obtain ⟨a,C',H2,rfl,o1,o2,o3,o4,o5,o6,o7⟩:=hq
  cases o6
  have I2:Inv X U Y H2 s':=I1.call' o1 o3 o4 o2 (λb z=>nomatch z)
  exact kk H2 J1 (r1.ext (Same.refl _) o7 (r1.iH.trans o7) λb o z=>.inl z) g1 U s' s1.heap a I2 (λb o z n=>I1.base.there b o z n) (λq hq=>⟨_,(I1.pin q hq).1⟩) (λb o z=>o3.there b o z (λq=>nomatch q)) o5
end
noncomputable def fnE (n ar:Nat) (m:M Nat) (ds:List D):Option Nat:=if ds.length=ar then (m ((ds.map R.val).map some++replicate (n - ds.length) none)).map (·.1) else none
theorem G9 {K:PySem.W.Frag}{N:List Str}{I H:Hp}{ds:List D}{vs:List V} (iH:Same I H) (h:IsA K I ds vs):Rep K (λi=>(L2.start N vs)[i]?) H I H (L2.start N vs) ((ds.map R.val).map some++replicate (N.length - ds.length) none) where
 iH:=iH
 gH:=Same.refl _
 len:=by unfold L2.start;simp [h.length]
 slot:=λi q e=>by
  have e':=sS e
  obtain ⟨d,e1,rfl⟩:=getMap e'
  obtain ⟨v,e2,e3⟩:=h.get e1
  refine ⟨v,?_,e3⟩
  unfold L2.start
  rw [getElem?_append_left (by rw [length_map];exact (List.getElem?_eq_some_iff.mp e2).1),getElem?_map,e2];rfl
 dist:=λi j q q' v e e' m m' s1 s2=>by
  obtain ⟨d,_,rfl⟩:=getMap (sS e)
  cases m
 bor:=λi es e=>rfl
section
variable {P:Program}{w:World}{K:PySem.W.Frag}{mg:Str->Option Value}{base:Heap}
theorem tE {cl:Nat->Addr}{x qual:Str}{st:Stmt}{f:Addr}{fd:FuncData}{N ps:List Str}{k:Nat} (F:Fun K x qual st f fd) (S:FnScope N ps (defScope st)) (m:M Nat)
  (hb:∀ (ao:Value) (A:Around) (outer:List Env) (s:Shared) (H:Hp) (E:XK) (B:BB),Room k (A.deeper (envOfC qual (defScope st) s.heap.objs.size f ao)) →
   SXs (cxOf (CXX P w) P w K mg base N qual (defScope st) f ao A outer s H E) B cl (defBody st) m):FnOk P w K mg base (CXX P w) (k+1) f fd ps (spE K cl (fnE N.length ps.length m)):=by
 obtain ⟨oc,od,kV,bC,pm,an,ao,ct,dz,rfl,lk,bW⟩:=F.ex
 have par:∀ {ds:List D}{C:Nat},fnE N.length ps.length m ds=some C->ds.length=ps.length/\∃ aa,m ((ds.map R.val).map some++replicate (N.length - ds.length) none)=some (C,aa):=λ{ds C} e=>by
  unfold fnE at e
  by_cases hc:ds.length=ps.length
  ·rw [if_pos hc] at e
   cases z:m ((ds.map R.val).map some++replicate (N.length - ds.length) none) with
   | none=>rw [z] at e;cases e
   | some y=>rw [z] at e;cases e;exact ⟨hc,_,rfl⟩
  ·rw [if_neg hc] at e;cases e
 refine zY lk bW S (λvs H Q E h=>?_) λA outer s H vs Q E hr h=>?_
 ·obtain ⟨I,ds,C,_,h2,h3,_⟩:=h
  rw [← h2.length];exact (par h3).1
 ·obtain ⟨I,ds,C,iH,h2,h3,h4⟩:=h
  obtain ⟨hc,aa,e⟩:=par h3
  exact ⟨_,hb ao A outer s H E (λi=>(L2.start N vs)[i]?) hr,H,I,_,C,aa,G9 iH h2,e,λai H' I' r' _=>G4 (h4 H' r'.gH)⟩
end
theorem z8 {K:Frag}{h:Heap}{C:Addr}{bB:List Value}{ni:String} (X:K.In h) (q:excIn K C bB ni=true) :
  ∃ t n nm qn bs hd sn sub ab col dd k0 k1 k2 k3 k5 mN,h.get? C=some (excClassObj nm qn C n bs t hd sn sub ab col dd k0 k1 k2 k3 k5 ni)/\h.Ns n mN/\mN "__init__"=none/\OwnTail h bB t:=by
 unfold excIn at q
 split at q
 case h_2=>cases q
 case h_1 dd cd sl ho =>
  split at q
  case h_2=>cases q
  case h_1 c1 t k0 k1 k2 k3 n k5 e1 e2 =>
   simp only [beq_iff_eq,and_eq_true,not_eq_true'] at q
   obtain ⟨⟨⟨⟨⟨z1,z2⟩,z3⟩,z4⟩,z5⟩,z6⟩:=q
   subst z1 z2
   obtain ⟨a1,a2,a3,a4,a5,a6,a7,a8,a9,b1,b2⟩:=cd
   have e3:sl=#[k0,k1,k2,k3,some (.builtin n),k5]:=by rw [← e2]
   dsimp only at e1 z3 z5 z6
   subst e1 z3 e3
   exact ⟨t,a4,a1,a5,a2,a6,a7,a8,a9,b1,dd,k0,k1,k2,k3,k5,_,X _ _ ho,.of_isNs (isNs_of_in X z5),nsMap_none_of_in X z5 z6,tail_of_in X z4⟩
noncomputable abbrev VEs:List Value:=[.type "ValueError", .type "Exception", .type "BaseException", .type "object"]
noncomputable def xcIn (K:Frag) (C:Addr):Bool:=excIn K C VEs "ValueError.__new__"
theorem El {P:Program}{w:World}{H:Hp}{h h':Heap}{a C:Addr}{vs:List Value} (hok:HOk P w H h) (m:Heap.MadeExcOf h h' a (.ref C) vs):Flies H h h' a C:=by
 obtain ⟨t,e1,_,_⟩:=m.there
 refine ⟨_,_,_,e1,rfl,rfl,rfl,?_,m.new,.inl rfl⟩
 cases z:H a with
 | none=>rfl
 | some o=>obtain ⟨_,q⟩:=objThere (hok _ _ z);rw [m.new] at q;cases q
noncomputable def raX (C:Nat) (t:M (List D)):M Nat:=bnd t λds=>lft (if ds.length<=5 then some C else none)
section
variable {X:Cx}{B:BB}{cl:Nat->Addr}{e:Expr}{es:List Expr}{pos:Pos}
theorem tV {x:Str}{C:Nat}{np av:Pos}{t:M (List D)} (hc:X.calm=true) (hg:Gl X x) (hm:X.mg x=some (.ref (cl C))) (hx:xcIn X.K (cl C)=true) (ha:AD X B (e::es) t)
  (aW:(x == ("__debug__":Str))=false:=by decide) (he:starEach (e::es) X.env=(false,eval e X.env)::starEach es X.env:=by rfl) (aA:(backTo av (starEach es X.env)).any (·.1)=false:=by rfl) :
  SX X B cl (.Raise (some (.Call (.Name x np) (e::es) [] av)) none pos) (raX C t):=by
 intro U s Y H D I h
 obtain ⟨G,J,Γ,C',aa,r,e1,kk⟩:=h
 obtain ⟨ds,Z,e2,e3⟩:=pO e1
 obtain ⟨e4,rfl⟩:=qe e3
 obtain ⟨hl,rfl⟩:=ql e4
 obtain ⟨tl,n,nm,qn,bs,hd,sn,sub,ab,col,dd,k0,k1,k2,k3,k5,mN,hC,hN,lu,T⟩:=z8 I.ok.mod.kin hx
 refine wpAny_Raise_call_subT (nm:=nm) (q:=qn) (N:=n) (bs:=bs) (bm:=tl) (hdct:=hd) (sn:=sn) (sub:=sub) (ab:=ab) (col:=col) (dd:=dd) (k0:=k0) (k1:=k1) (k2:=k2) (k3:=k3) (k5:=k5) excBase_ValueError (mN:=mN) (T.hasType excBase_ValueError.hasBase) (I.ok.hd hc)
  (by rw [he];show (false||(backTo av (starEach es X.env)).any (·.1))=false;rw [aA];rfl) lu (t9 I hg hm ⟨rfl,?_⟩ aW)
 have hh:=ha av U s Y H (λvs H1=>∃ J1,Rep X.K B G J1 H1 Y aa/\Grow G J J1/\IsA X.K J1 ds vs) I ⟨G,J,Γ,ds,_,r,e2,λvs H1 J1 r1 g1 h1=>⟨J1,r1,g1,h1⟩⟩
 rw [he] at hh ⊢
 refine Calls.evalArgs_plain (thn hh λus s2 ⟨vs,H1,I1,rv,J1,r1,g1,h1⟩=>⟨rfl,?_,I1.bk _ _ hC,hN.keeps I1.bk,T.keeps I1.bk,λh' a hM=>?_⟩)
 ·rw [← rv.length,← h1.length]
  exact le_trans hl (by decide)
 ·exact kk Y H1 J1 r1 g1 U _ s2.heap a (I1.kept (t':=s2.toks) hM.keeps) (λb o z n=>I1.base.there b o z n) (λq hq=>⟨_,(I1.pin q hq).1⟩) (λb o z=>⟨o,hM.keeps b o z⟩) (El I1.hok hM)
theorem Turn.inv {U:List (Addr×Obj)}{Y:L2.St}{H:Hp}{s:Shared}{aH h':Heap}{ch:List Addr} (T:Turn H aH s.heap h' (frs X.stack) ch) (I:Inv X U Y H s) (c1:∀ b o,X.s₀.heap.get? b=some o->b∉X.ex->∃ o',aH.get? b=some o') (c2:∀ p∈X.pn++U,∃ o,aH.get? p.1=some o):Inv X U Y H { s with heap:=h' }:=by
 have pq:∀ b∈ch,b∉frs X.stack:=λb hb m=>by
  obtain ⟨_,_,o,vs,e,d⟩:=T.new b hb
  obtain ⟨_,o',e',d'⟩:=I.stack.mem m
  rw [e] at e';cases e'
  exact d' vs d
 refine I.callN (g':=s.gens) (d':=s.drawn) (t':=s.toks) (ch:=ch) ⟨λb o e _ n2 n3=>T.keep b o e n3 n2,λb o e _ m _=>T.slot b o e m,λb o e n _=>n,λb o e n=>?_,λ_ _ z=>z,λ_ _ _ z=>z,λb q z=>by first | exact z | exact ⟨#[],by rw [z];simp⟩⟩ (T.hok I) I.bare λb hb=>?_
 ·by_cases m:b∈frs X.stack
  ·obtain ⟨sl,q⟩:=T.slot b o e m;exact ⟨_,q⟩
  ·exact ⟨_,T.keep b o e n m⟩
 ·obtain ⟨n1,n2,o,vs,e,d⟩:=T.new b hb
  refine ⟨?_,λz=>?_,λy c hy z=>?_,λp hp z=>?_⟩
  ·by_cases m:b∈X.ex
   ·exact .inl m
   ·refine .inr ?_
    cases q:X.s₀.heap.get? b with
    | none=>rfl
    | some o'=>obtain ⟨_,q'⟩:=c1 b o' q m;rw [n2] at q';cases q'
  ·obtain ⟨_,⟨o',es,ep,e',d',_⟩,_⟩:=I.loc
   rw [← z,e] at e';cases e'
   rw [d] at d';cases d'
  ·obtain ⟨v,o',e',d'⟩:=I.cell y c hy
   rw [z,e] at e';cases e'
   rw [d] at d';cases d'
  ·obtain ⟨_,q⟩:=c2 p hp
   rw [z,n2] at q;cases q
theorem G3 {P:Program}{w:World}{H:Hp}{h₀ base:Heap}{l:List Env}{a C:Addr}{M:Model}{A:Around}{E:Value->Shared->Prop}{s:Shared}{Q:Unit->Shared->Prop} (hl:s.heap.FunFrames base l) (hok:HOk P w H s.heap) (th:Lasts h₀ s.heap) (F:Flies H h₀ s.heap a C)
  (k:∀ h' ch,Turn H h₀ s.heap h' (frs l) ch->Flies H h₀ h' a C->Q () { s with heap:=h' }):wpAny M A (setFlight (.ref a) none) Q E s:=by
 have F0:=F
 obtain ⟨oe,vs,a0,e1,e2,e3,e4,e5,e6,e7⟩:=F
 rcases e7 with e7 | ⟨T,oT,ts,f1,f2,f3,f4,f5,f6,f7⟩
 ·unfold setFlight
  refine wpAny_bind (wpAny_field e1 e3 e7 ?_)
  rw [if_neg (by decide)]
  exact wpAny_pure (k s.heap [] ⟨λ_ z=>(nomatch z),λb o e _ _=>e,λb o e _=>⟨o.slots,e⟩⟩ F0)
 ·refine wpAny_setFlight_noneW (base:=hideAll s.heap ([a,T]++frs l)) (l:=l) (cls:=.ref C) (a0:=a0) (fl:=ts[3]) (λb o q=>of_hideAll _ q) (vA hl) ⟨oe,vs,T,oT,ts,e1,⟨e2,e4⟩,e3,f1,hideAll_none _ (.tail _ (.head _)),f2,f3,f4,Array.getElem?_eq_getElem f5⟩ λh' k1 k2 k3 k4=>?_
  have T':=uP (H:=H) (h₀:=h₀) (ch:=[a,T]) hl (λb hb=>by
   rcases mem_cons.mp hb with rfl | hb
   ·exact ⟨e5,e6,_,_,e1,e3⟩
   ·rw [mem_singleton.mp hb];exact ⟨f6,f7,_,_,f3,f4⟩) k1 (λb o e n=>⟨o.slots,k4 b o e n⟩)
  exact k h' [a,T] T' (yE hok th hl T' (.head _) k3.at)
theorem Turn.lasts {H:Hp}{h₀ h h':Heap}{fr ch:List Addr} (T:Turn H h₀ h h' fr ch) (l:Lasts h₀ h):Lasts h₀ h':=λb o e=>by
 obtain ⟨o',e'⟩:=l b o e
 by_cases m:b∈fr
 ·obtain ⟨sl,q⟩:=T.slot b o' e' m;exact ⟨_,q⟩
 ·exact ⟨_,T.keep b o' e' (λz=>by rw [(T.new b z).2.1] at e;cases e) m⟩
end
noncomputable abbrev Cx.tried (X:Cx) (E:Value->Shared->Prop) (pn:List (Addr×Obj)):Cx:={ X with xe:=E,pn:=pn }
noncomputable abbrev Cx.suite (X:Cx) (a:Addr):Cx:={ X with A:=X.A.mark (some (.ref a)),calm:=false,xe:=λ_ _=>False }
section
variable {X:Cx}{U ps:List (Addr×Obj)}{Y:L2.St}{H:Hp}{s:Shared}{E:Value->Shared->Prop}{a:Addr}
theorem IS {pn:List (Addr×Obj)} (ok:X.Ok):(Cx.tried X E pn).Ok:=by
 cases ok;constructor<;>assumption
theorem ES {pn:List (Addr×Obj)} (ok:(Cx.tried X E pn).Ok):X.Ok:=by
 cases ok;constructor<;>assumption
theorem Cw (I:Inv X U Y H s):Inv (Cx.tried X E (X.pn++U)) [] Y H s :=
 ⟨IS I.ok,I.os,I.bare,I.base,I.loc,I.cell,I.free,I.freeC,λp hp=>I.pin p (by rw [append_nil] at hp;exact hp),I.hok,I.len⟩
theorem t6 (I:Inv (Cx.tried X E (X.pn++U)) ps Y H s):Inv X U Y H s :=
 ⟨ES I.ok,I.os,I.bare,I.base,I.loc,I.cell,I.free,I.freeC,λp hp=>I.pin p (mem_append_left _ hp),I.hok,I.len⟩
theorem IU (ok:X.Ok):(Cx.suite X a).Ok:=by
 have hf:(X.A.mark (some (.ref a))).frames=some X.stack:=ok.frames
 cases ok;constructor<;>first | assumption | exact λz=>nomatch z
theorem Ce (I:Inv X U Y H s):Inv (Cx.suite X a) U Y H s :=
 ⟨IU I.ok,I.os,I.bare,I.base,I.loc,I.cell,I.free,I.freeC,I.pin,I.hok,I.len⟩
theorem vD (k:X.Ok) (I:Inv (Cx.suite X a) U Y H s):Inv X U Y H s :=
 ⟨k,I.os,I.bare,I.base,I.loc,I.cell,I.free,I.freeC,I.pin,I.hok,I.len⟩
end
noncomputable def tryN (g:M Fl) (m:M Nat) (C:Nat) (i:Nat):M Fl:=λΓ=>match m Γ with
 | some (c,Z)=>if c=C then (bnd (putS i (.val .non)) λ_=>ret .nx) Z else none
 | none=>g Γ
section
variable {X:Cx}{B:BB}{cl:Nat->Addr}
theorem Jw {body:List Stmt}{g:M Fl}{m:M Nat}{x y:Str}{C:Nat}{i:Nat} {j}{np kp yp ap hp pos:Pos} (hN:X.N.Nodup) (cn:X.stack=X.env::X.outer) (eQ:X.env.frame=some X.env.locals) (hm:X.mg x=some (.ref (cl C))) (hx:xcIn X.K (cl C)=true)
  (hb:∀ E pn,SDs (Cx.tried X E pn) B body g) (nO:∀ E pn,SXs (Cx.tried X E pn) B cl body m) (hg:Gl X x:=by exact rfl) (hi:X.N[i]?=some y:=by rfl) (hy:locB X.env.scope y=true:=by rfl) (hf:fnB X y=true:=by rfl) (aW:(x == ("__debug__":Str))=false:=by decide)
  (hs:∀ a,swapsWith (.Constant .none j kp) (some (.Name y yp)) ap.line (Cx.suite X a).env=pure false:=by intro _;rfl) :
  SD X B (.Try body [.ExceptHandler (some (.Name x np)) none [.Assign [.Name y yp] (.Constant .none j kp) ap] hp] [] [] pos) (tryN g m C i):=by
 intro U s Y H D I q
 obtain ⟨G,J,Γ,f,aa,r,e1,k⟩:=q
 unfold tryN at e1
 cases z:m Γ with
 | none =>
  rw [z] at e1
  refine wpAny_Try_except (thn (hb _ (X.pn++U) [] s Y H D (Cw I) ⟨G,J,Γ,f,aa,r,e1,k⟩) λfl s1 q=>?_)
  cases fl with
  | next=>obtain ⟨ai,H',I',q⟩:=q;exact wpAny_execs_nil ⟨ai,H',t6 I',q⟩
  | brk=>obtain ⟨ai,H',I',q⟩:=q;exact ⟨ai,H',t6 I',q⟩
  | cont=>obtain ⟨ai,H',I',q⟩:=q;exact ⟨ai,H',t6 I',q⟩
  | ret u=>obtain ⟨v,ai,H',I',q⟩:=q;exact ⟨v,ai,H',t6 I',q⟩
 | some cy =>
  obtain ⟨c,Z⟩:=cy
  rw [z] at e1
  dsimp only at e1
  by_cases hc:c=C
  rotate_left
  ·rw [if_neg hc] at e1;cases e1
  rw [if_pos hc] at e1
  subst hc
  obtain ⟨_,ah,e2,e3⟩:=pO e1
  cases e3
  obtain ⟨hl,rfl⟩:=uW e2
  refine wpAny_Try_except (thn (nO _ (X.pn++U) [] s Y H ⟨λ_ _=>False,λ_ _=>False,λ_ _=>False,λ_ _=>False⟩ (Cw I) ⟨G,J,Γ,c,Z,r,z,λai H' I' r' g'=>?_⟩) λfl s1 q=>?_)
  rotate_left
  ·cases fl with
   | next=>obtain ⟨_,_,_,q⟩:=q;exact q.elim
   | brk=>obtain ⟨_,_,_,q⟩:=q;exact q.elim
   | cont=>obtain ⟨_,_,_,q⟩:=q;exact q.elim
   | ret u=>obtain ⟨_,_,_,_,_,q⟩:=q;exact q.elim
  intro ps s1 aH a I1 c1 c2 c3 F
  have I2:=t6 I1
  have lv:∀ p∈X.pn++U,∃ o,aH.get? p.1=some o:=λp hp=>c2 p (mem_append_left _ hp)
  have fr:=I2.ok.frames
  have st:=I2.stack
  rw [cn] at fr st
  show wpAny (model X.prog X.w) X.A (noteFrame (.ref a) X.env) _ _ s1
  refine Cy fr eQ st I2.hok c3 F λh2 ch T F2=>?_
  rw [← cn] at T
  have I3:=T.inv I2 c1 lv
  have l3:=T.lasts c3
  obtain ⟨tl,n,nm,qn,bs,hd,sn,sub,ab,col,dd,k0,k1,k2,k3,k5,mN,hC,pt,lu,TL⟩:=z8 I3.kIn hx
  obtain ⟨oe,vs,a0,f1,f2,f3,f4,f5⟩:=id F2
  refine wpAny_handleBy_cons (codeAny_handlers_test (t9 (X:=Cx.suite X a) (Ce I3) hg hm (wpAny_excMatches_sub_self hC f1 f2 (TL.hasType excBase_ValueError.hasBase) (codeAny_handlers_suite ?_)) aW)) (by intro q;cases q)
  refine G3 I3.stack I3.hok l3 F2 λh3 pw T3 F3=>?_
  have I4:=T3.inv I3 c1 lv
  have ei:SDs (Cx.suite X a) B [.Assign [.Name y yp] (.Constant .none j kp) ap] (setV i (ret .non)):=CT (By (X:=Cx.suite X a) hN rp hi hy (hs a) hf)
  refine wpAny_mono (ei U _ ai H' D (Ce I4) ⟨G,I',Z,.nx,Z.set i (some (.val .non)),r',?_,λlA nP nQ dF nR=>k lA nP nQ dF (g'.trans nR)⟩) (λfl s5 q=>?_) λ_ _ z=>z.elim
  ·simp [setV,bnd,ret,putS,hl]
  ·cases fl with
   | next=>obtain ⟨bY,H5,I5,q⟩:=q;exact ⟨bY,H5,vD I.ok I5,q⟩
   | brk=>obtain ⟨bY,H5,I5,q⟩:=q;exact ⟨bY,H5,vD I.ok I5,q⟩
   | cont=>obtain ⟨bY,H5,I5,q⟩:=q;exact ⟨bY,H5,vD I.ok I5,q⟩
   | ret u=>obtain ⟨v,bY,H5,I5,q⟩:=q;exact ⟨v,bY,H5,vD I.ok I5,q⟩
end
theorem Kq {e:Value}{env env':Env} (h:env'.frame=env.frame):noteFrame e env'=noteFrame e env:=by
 unfold noteFrame PySem.frameOf
 rw [h]
def ErX (X:Cx) (C:Addr) (x:Value) (s':Shared):Prop:=∃ m,s'.heap.Ns C m/\∀ h',Heap.SameBut C s'.heap h'->∀ bv:Env,bv.locals=C->wpAny (model X.prog X.w) X.A (passOn "comprehension.variables-let-go" x bv:Sem Value) (λ_ _=>False) X.xe { s' with heap:=h' }
theorem EZ {X:Cx}{U:List (Addr×Obj)}{Y ai:L2.St}{scope:Scope}{N':List Str}{C Cc:Addr}{s0:Shared}{H0 H':Hp}{ex:List Addr} (cn:X.stack=X.env::X.outer) (eQ:X.env.frame=some X.env.locals) (Wi:Within X U Y (cxC X scope N' C s0 H0 ex)) (z:Xz X Cc Y H') :
  Xz ((cxC X scope N' C s0 H0 ex).wish (notedBy (model X.prog X.w) X.A (compEnvC scope (clo X.env.cells scope.names []) C X.env) (ErX X C))) Cc ai H':=by
 intro ps s aH a J c1 c2 c3 F
 have J':=J.unwish
 obtain ⟨I,cl⟩:=Wi.back J'
 obtain ⟨mm,⟨oC,es,ep,jO,jP,rC⟩,_⟩:=J'.loc
 show wpAny _ X.A (noteFrame (.ref a) (compEnvC scope (clo X.env.cells scope.names []) C X.env)) _ _ s
 rw [Kq (env:=X.env) (env':=compEnvC scope (clo X.env.cells scope.names []) C X.env) rfl]
 have fr:=I.ok.frames
 have st:=I.stack
 rw [cn] at fr st
 refine CH fr eQ st I.hok c3 F λh' ch a0 fl ha T k1 k2 k3=>?_
 have d1:∀ b o,X.s₀.heap.get? b=some o->b∉X.ex->∃ o',aH.get? b=some o':=λb o e n=>by
  obtain ⟨o',e',n'⟩:=Wi.old b o e n
  exact c1 b o' e' n'
 have d2:∀ p∈X.pn++U,∃ o,aH.get? p.1=some o:=λp hp=>by
  obtain ⟨o',e',n'⟩:=Wi.pin p hp
  exact c1 p.1 o' e' n'
 have F2:Flies H' aH h' a Cc:=yE I.hok c3 st T ha k3
 rw [← cn] at T
 have I1:=T.inv I d1 d2
 have l1:=T.lasts c3
 have hC:∃ o',h'.get? C=some o'/\o'.data=.dict es ep:=by
  by_cases m:C∈frs X.stack
  ·obtain ⟨sl,q⟩:=T.slot C oC jO m;exact ⟨_,q,jP⟩
  ·refine ⟨oC,T.keep C oC jO (λm2=>?_) m,jP⟩
   obtain ⟨_,_,o,vs,e,d⟩:=T.new C m2
   rw [show s.heap.get? C=some oC from jO] at e;cases e
   rw [jP] at d;cases d
 obtain ⟨nS,lB,lC⟩:=hC
 refine ⟨mm,⟨nS,es,ep,lB,lC,rC⟩,λh2 sb bv cD=>?_⟩
 obtain ⟨oe,vs,T',oT,ts,e1,⟨e2,e3⟩,e4,e5,e6,e7,e8,e9,jN⟩:=k3
 have ne:∀ {b o vs},h'.get? b=some o->o.data=.fields vs->b≠C:=λ{b o vs} e d q=>by
  rw [q,lB] at e;cases e
  rw [lC] at d;cases d
 have I2:Inv X U Y H' { s with heap:=h2 }:=Inv.clear (s:={ s with heap:=h' }) I1 cl sb
 have g1:h2.get? a=some oe:=(sb.2 a (ne e1 e4)).trans e1
 have g2:h2.get? T'=some oT:=(sb.2 T' (ne e8 e9)).trans e8
 obtain ⟨px,pz,pA,j1,j2,j3,j4,j5,j6,j7⟩:=F2
 rw [e1] at j1;cases j1
 rw [e4] at j3;cases j3
 have q:H' T'=none/\aH.get? T'=none:=by
  rcases j7 with j | ⟨T2,pB,pC,i1,i2,i3,i4,i5,i6,i7⟩
  ·rw [e5] at j;cases j
  ·rw [e5] at i1;cases i1;exact ⟨i6,i7⟩
 have fG:3 < ts.size:=(Array.getElem?_eq_some_iff.mp jN).1
 unfold PySem.passOn setFlight
 refine wpAny_bind (wpAny_field g1 e4 e5 ?_)
 rw [if_neg (show ¬ ((Value.ref T' == Value.none)=true) by simp)]
 refine wpAny_bind (wpAny_bind (wpAny_field g1 e4 e5 ?_))
 rw [if_pos (show (Value.ref T' != Value.none)=true by simp)]
 refine wpAny_setField g2 e9 fG ?_
 refine wpAny_throw ?_
 have b7:∀ b,b≠T'->(h2.update T' (mapFields (·.setIfInBounds 3 (bv.frame.elim Value.none λf=>rawInt f)))).get? b=h2.get? b:=λb hb=>get?_update_other _ _ (Ne.symm hb)
 have c0:∀ b,aH.get? b=none->(aH.hide C).get? b=none:=λb e=>by
  cases y:(aH.hide C).get? b with
  | none=>rfl
  | some o=>rw [Heap.of_hide y] at e;cases e
 have nT:∀ {b o},(aH.hide C).get? b=some o->b≠C:=λ{b o} e q=>by rw [q,Heap.hide_self] at e;cases e
 have l2:Lasts (aH.hide C) h2:=λb o e=>by
  obtain ⟨o',e'⟩:=l1 b o (Heap.of_hide e)
  exact ⟨o',(sb.2 b (nT e)).trans e'⟩
 have T3:Turn H' (aH.hide C) h2 (h2.update T' (mapFields (·.setIfInBounds 3 (bv.frame.elim Value.none λf=>rawInt f)))) (frs X.stack) [T']:=by
  refine ⟨λb hb=>?_,λb o e n _=>(b7 b λy=>n (by rw [y];exact .head _)).trans e,λb o e m=>⟨o.slots,(b7 b λy=>?_).trans e⟩⟩
  ·rw [mem_singleton.mp hb]
   exact ⟨q.1,c0 _ q.2,_,_,g2,e9⟩
  ·obtain ⟨_,o',e',d⟩:=I2.stack.mem m
   have e2:h2.get? b=some o':=e'
   rw [y,g2] at e2;cases e2
   exact d ts e9
 have lD:∀ b o,X.s₀.heap.get? b=some o->b∉X.ex->∃ o',(aH.hide C).get? b=some o':=λb o e n=>by
  obtain ⟨o',e'⟩:=d1 b o e n
  have nb:b≠C:=λy=>absurd (lt_of_lt_of_le (lt_size e) cl.2.2.1) (by rw [y];exact lt_irrefl _)
  exact ⟨o',(Heap.hide_ne aH nb).trans e'⟩
 have lE:∀ p∈X.pn++U,∃ o,(aH.hide C).get? p.1=some o:=λp hp=>by
  obtain ⟨o',e'⟩:=d2 p hp
  exact ⟨o',(Heap.hide_ne aH (cl.2.2.2.2 p hp)).trans e'⟩
 have lF:=data_mapFields e9 (·.setIfInBounds 3 (bv.frame.elim Value.none λf=>rawInt f))
 have g3:=get?_update_self (mapFields (·.setIfInBounds 3 (bv.frame.elim Value.none λf=>rawInt f))) g2 (Obj.isFreed_of_fields lF)
 exact z U _ (aH.hide C) a (T3.inv I2 lD lE) lD lE (T3.lasts l2) ⟨oe,vs,a0,(b7 a (Ne.symm e7)).trans g1,e2,e4,e3,j5,c0 _ j6,.inr ⟨T',_,_,e5,e7,g3,lF,by rw [Array.size_setIfInBounds];exact fG,q.1,c0 _ q.2⟩⟩
section
variable {X:Cx}{B:BB}{cl:Nat->Addr}{tg bw iter:Expr}{bt:List Expr}{scope:Scope}{pos:Pos}{N':List Str}{m:Nat}{g:TG}{tt:TT}{wi:TI}
noncomputable def tCompX (m:Nat) (wi:TI) (g:TG) (tt:TT) (te:L2.St->TE):TE:=λY H Q=>wi Y H λJ H1=>∀ p,H1 p=none->CompW m J g tt (te Y) Y H1 p Q
theorem Ko {te:L2.St->TE} (S:CompScope X.env.scope scope X.N N' m) (hc:X.calm=true) (cn:X.stack=X.env::X.outer) (eQ:X.env.frame=some X.env.locals) (hi:PI X tg iter wi)
  (hg:∀ C s H ex,PG (cxC X scope N' C s H ex) tg g) (ht:∀ C s H ex,PTs (cxC X scope N' C s H ex) bt tt)
  (he:∀ Y C s H ex E,(∀ Cc ai H',Xz X Cc Y H'->Xz ((cxC X scope N' C s H ex).wish E) Cc ai H')->PE ((cxC X scope N' C s H ex).wish E) bw (te Y))
  (hs:∀ x,foldedSetIterable iter X.env x=pure x:=by intro _;rfl):PE X (.ListComp bw [⟨tg,iter,bt,0⟩] scope pos) (tCompX m wi g tt te):=by
 intro U s Y H Q I h
 rw [eval_ListComp]
 refine wpAny_comprehension_free (use:=none) rfl hs (A9 λn hn=>I.ok.has n (S.free _ hn rfl)) S.kind S.locals (thn (hi U s Y H _ I h) λxv s1 h1=>thn h1 λgJ s2 h2=>?_)
 obtain ⟨it,fp,tn,J,H2,e,I2,T,dQ,f2,hw⟩:=h2
 subst e
 refine thn (CL (Er:=ErX X) (pos:=pos) (iter:=iter) S hc hg ht (λC s H ex Wi=>he Y C s H ex _ λCc ai H' z=>EZ cn eQ Wi z) I2 T dQ f2 hw) λaf s3 h3=>thn h3 λbv s4 h4=>codeAny_mono h4 λr s5 h5=>?_
 cases r with
 | error x=>exact h5
 | ok fl =>
  obtain ⟨p,H5,mm,rfl,hn,I5,cl,q⟩:=h5
  exact ⟨mm,hn,λh' dB=>⟨.ref p,H5,Inv.clear I5 cl dB,rfl,q⟩⟩
noncomputable def compXM (az:D->M Unit) (el:M D) (mx:M Nat):List D->M Nat
 | []=>λ_=>none
 | d::ds=>bnd (az d) λ_=>orX mx (bnd el λ_=>compXM az el mx ds)
noncomputable def compX (m:Nat) (it:M (List D)) (az:D->M Unit) (el:M D) (mx:M Nat):M Nat:=bnd it λds=>if ds.length<=lim then inC m (compXM az el mx ds) else λ_=>none
noncomputable def teX (X:Cx) (B:BB) (cl:Nat->Addr) (el:M D) (mx:M Nat) (nU:L2.St):TE:=λY H Q=>tD X.K B el Y H Q\/∃ G I Γ C aa,Rep X.K B G I H Y Γ/\mx Γ=some (C,aa)/\∀ H' I',Rep X.K B G I' H' Y aa->Grow G I I'->Xz X (cl C) nU H'
theorem IQ {it:M (List D)}{az:D->M Unit}{el:M D}{mx:M Nat}:∀ Y H Q,tX X B cl (compX m it az el mx) Y H Q->tCompX m (tI X.K B it) (tGD X.K (bUp m B) m az) (tTD X.K (bUp m B) (ret true)) (teX X (bUp m B) cl el mx) Y H Q:=λY H Q q=>by
 obtain ⟨G,I,Γ,Cc,aa,r,e1,k⟩:=q
 obtain ⟨ds,Z,e2,e3⟩:=pO e1
 by_cases c6:ds.length<=lim
 case neg=>rw [if_neg c6] at e3;cases e3
 rw [if_pos c6] at e3
 obtain ⟨bO,e4,rfl⟩:=zI e3
 refine ⟨G,I,Γ,ds,Z,r,e2,λJ H1 I1 r1 g1 y p hp=>?_⟩
 have gp:=r1.gFree hp
 have ip:=r1.iFree hp
 refine ⟨λi n ai H'=>∃ af I2 ah,Rep X.K (bUp m B) (upd G p (.lst af)) I2 H' ai ah/\Grow G I1 I2/\I2 p=none/\af.length<=i/\ai.drop m=Y/\compXM az el mx (ds.drop i) ah=some (Cc,bO)/\i<=ds.length/\n=ds.length - i,
  ⟨ds.length,[],I1,_,(r1.up m).guard hp _,Grow.refl _ _,ip,zero_le _,by rw [List.drop_append_of_le_length (by simp),drop_of_length_le (by simp),List.nil_append],by simpa using e4,zero_le _,rfl⟩,?_⟩
 rintro i n aJ H2 ⟨af,I2,ah,r2,g2,fO,mQ,hs,e5,hi,rfl⟩
 obtain ⟨yg,ys⟩:=y i H2 (g2.up.trans r2.iH)
 by_cases bc:i < ds.length
 case neg =>
  rw [drop_of_length_le (by omega)] at e5
  cases e5
 have hd:ds.drop i=ds[i]::ds.drop (i+1):=drop_eq_getElem_cons bc
 obtain ⟨go,yld⟩:=yg ds[i] (getElem?_eq_getElem bc)
 rw [hd,compXM] at e5
 obtain ⟨u,aK,e6,e7⟩:=pO e5
 refine .inr ⟨go,λx H3 hy=>?_⟩
 have main:∀ I3,Rep X.K (bUp m B) (upd G p (.lst af)) I3 H3 aJ ah->Grow (upd G p (.lst af)) I2 I3->Is X.K I3 ds[i] x->tGD X.K (bUp m B) m az x aJ H3 λaJ H3=>tTD X.K (bUp m B) (ret true) aJ H3 λb H4 =>
   if b=true then teX X (bUp m B) cl el mx Y aJ H4 λy H5=>∃ af,H5 p=some (.lst af)/\af.length < sizeLine/\∃ n',n' < ds.length - i/\∃ acc_1 I2 ah,Rep X.K (bUp m B) (upd G p (.lst acc_1)) I2 (upd H5 p (.lst (af++[y]))) aJ ah/\Grow G I1 I2/\I2 p=none/\acc_1.length<=i+1/\aJ.drop m=Y/\compXM az el mx (ds.drop (i+1)) ah=some (Cc,bO)/\i+1<=ds.length/\n'=ds.length - (i+1)
   else ∃ n',n' < ds.length - i/\∃ af I2 ah,Rep X.K (bUp m B) (upd G p (.lst af)) I2 H4 aJ ah/\Grow G I1 I2/\I2 p=none/\af.length<=i+1/\aJ.drop m=Y/\compXM az el mx (ds.drop (i+1)) ah=some (Cc,bO)/\i+1<=ds.length/\n'=ds.length - (i+1):=by
  intro I3 r3 g3 hx
  refine ⟨_,I3,ah,ds[i],aK,r3,hx,e6,λgR H4 I4 r4 g4 jf=>⟨_,I4,aK,true,aK,r4,rfl,λH5 I5 r5 g5=>iteT ?_⟩⟩
  have eG:=g3.trans (g4.trans g5)
  have dB:gR.drop m=Y:=jf.trans hs
  unfold orX at e7
  cases zx:mx aK with
  | some yx =>
   rw [zx] at e7
   cases e7
   refine .inr ⟨_,I5,aK,Cc,bO,r5,zx,λH6 I6 r6 g6=>?_⟩
   obtain ⟨ru,_⟩:=(Rep.down r6 dB).unguard gp
   exact k H6 I6 ru (g1.trans (g2.trans (eG.trans g6).unguard))
  | none =>
   rw [zx] at e7
   obtain ⟨xd,bU,f1,f2⟩:=pO e7
   refine .inl ⟨_,I5,aK,xd,bU,r5,f1,λyv H6 I6 r6 g6 kG=>⟨af,r6.gH _ _ qj,?_,ds.length - (i+1),by omega,af++[yv],I6,bU,?_⟩⟩
   ·have h1:lim < sizeLine:=by rw [sizeLine_eq];decide
    omega
   ·have fi:=eG.trans g6
    have fP:=fi.keepsOut fO
    exact ⟨r6.reguard fP,g2.trans fi.unguard,fP,by rw [length_append,List.length_singleton];omega,dB,f2,bc,rfl⟩
 rcases yld x H3 hy with ⟨rfl,hx⟩ | ⟨p2,es,xs,cV,rfl,cX,rfl,hx⟩
 ·exact main I2 r2 (Grow.refl _ _) (hx.mono g2.up)
 ·refine main _ (r2.alloc cX _) (r2.growAlloc cX _) ?_
  rw [cV]
  exact Is.tup (SqT.of qj) ((hx.mono g2.up).mono (qD (r2.iFree cX) _))
theorem v4 {it:M (List D)}{az:D->M Unit}{el:M D}{mx:M Nat} (S:CompScope X.env.scope scope X.N N' m) (hc:X.calm=true) (cn:X.stack=X.env::X.outer) (eQ:X.env.frame=some X.env.locals) (hi:ITD X B tg iter it)
  (hg:∀ C s H ex,GD (cxC X scope N' C s H ex) (bUp m B) m tg az) (ht:∀ C s H ex,TDs (cxC X scope N' C s H ex) (bUp m B) [] (ret true)) (he:∀ C s H ex E,ED ((cxC X scope N' C s H ex).wish E) (bUp m B) bw el) (hx:∀ C s H ex E,XD ((cxC X scope N' C s H ex).wish E) (bUp m B) cl bw mx)
  (hs:∀ x,foldedSetIterable iter X.env x=pure x:=by intro _;rfl):XD X B cl (.ListComp bw [⟨tg,iter,[],0⟩] scope pos) (compX m it az el mx) :=
 PE.imp (Ko (g:=tGD X.K (bUp m B) m az) (tt:=tTD X.K (bUp m B) (ret true)) (te:=teX X (bUp m B) cl el mx) S hc cn eQ hi hg ht (λY C s H ex E up U s1 cf H1 Q I q=>by
  rcases q with q | ⟨G,J,Γ,Cc,aa,r,e1,k⟩
  ·exact he C s H ex E U s1 cf H1 Q I q
  ·exact hx C s H ex E U s1 cf H1 Q I ⟨G,J,Γ,Cc,aa,r,e1,λH' I' r' g'=>up _ cf H' (k H' I' r' g')⟩) hs) IQ
end
def AX (X:Cx) (B:BB) (cl:Nat->Addr) (es:List Expr) (m:M Nat):Prop:=PA X es λY H _=>tX X B cl m Y H λ_ _=>True
section
variable {X:Cx}{B:BB}{cl:Nat->Addr}{e:Expr}{es:List Expr}{pos p:Pos}{m m':M Nat}{g:M D}{x:Str}
theorem HW (h:ED X B e g) (h1:XD X B cl e m) (h2:AX X B cl es m') (he:starEach (e::es) X.env=(false,eval e X.env)::starEach es X.env:=by rfl):AX X B cl (e::es) (orX m (bnd g λ_=>m')):=by
 have hh:PE X e λY H Q=>tD X.K B g Y H Q\/tX X B cl m Y H Q:=λU s Y H Q I q=>q.elim (h U s Y H Q I) (h1 U s Y H Q I)
 intro pos U s Y H Q I q
 refine sx hh h2 he pos U s Y H Q I ?_
 obtain ⟨G,J,Γ,C,aa,r,e1,k⟩:=q
 unfold orX at e1
 cases z:m Γ with
 | some y=>rw [z] at e1;cases e1;exact .inr ⟨G,J,Γ,C,aa,r,z,k⟩
 | none =>
  rw [z] at e1
  obtain ⟨d,Z,e2,e3⟩:=pO e1
  exact .inl ⟨G,J,Γ,d,Z,r,e2,λv H1 I1 r1 g1 _=>⟨G,I1,Z,C,aa,r1,e3,λH' I' r' g'=>k H' I' r' (g1.trans g')⟩⟩
theorem vR {T:String} (hg:Gl X x) (hm:X.mg x=none) (hv:bootBuiltins x=some (.type T)) (ha:AX X B cl (e::es) m) (hn:x ≠ "__name__":=by decide) (aW:(x == ("__debug__":Str))=false:=by decide)
  (he:starEach (e::es) X.env=(false,eval e X.env)::starEach es X.env:=by rfl) (aA:(backTo pos (starEach es X.env)).any (·.1)=false:=by rfl):XD X B cl (.Call (.Name x p) (e::es) [] pos) m :=
 xz (r:=λ_ _ _=>False) (λ_ _ _ _ _ _ _ _ _ q=>q.elim) hg hm hv ha hn aW he aA
theorem DE {x1} (ha:AX X B cl es m):XD X B cl (.Tuple es x1 pos) m:=BJ ha
noncomputable def intTF (ds:List D):Option D:=match ds with
 | [.str x]=>if x.length<=640 then (PySem.intText? x).map .int else none
 | _=>none
theorem IR:CallR X (.type "int") (λxs H Q=>∃ x n,xs=[.str x]/\x.length<=640/\PySem.intText? x=some n/\Q (.int n) H):=by
 intro U s Y H xs us Q I r h
 obtain ⟨x,n,rfl,hl,hn,q⟩:=h
 obtain ⟨u,rfl,ru⟩:=vals1 r
 obtain ⟨t,rfl⟩:=ru
 exact call_int_1 (KIN.gives_text (u:=t) hl hn).meets ⟨rfl,⟨.int _,H,I.tok _,⟨_,rfl⟩,q⟩⟩
theorem Jt {t:M (List D)} (hg:Gl X "int") (hm:X.mg "int"=none) (ha:AD X B [e] t) (he:starEach [e] X.env=(false,eval e X.env)::starEach [] X.env:=by rfl) (aA:(backTo pos (starEach [] X.env)).any (·.1)=false:=by rfl) :
  ED X B (.Call (.Name "int" p) [e] [] pos) (fn1 intTF t):=wf IR (λds d e B G I H Y Γ xs Q r h k=>by
 unfold intTF at e
 split at e
 ·rename_i x
  by_cases hl:x.length<=640
  ·rw [if_pos hl] at e
   cases hn:PySem.intText? x with
   | none=>rw [hn] at e;cases e
   | some n =>
    rw [hn] at e;cases e
    obtain ⟨y,rfl,hx⟩:=h.one
    rw [qy hx]
    exact ⟨x,n,rfl,hl,hn,k.now r (Is.int _)⟩
  ·rw [if_neg hl] at e;cases e
 ·cases e) hg hm rfl ha (by decide) (by decide) he aA
end
section
variable {X:Cx}{B:BB}{cl:Nat->Addr}{e c:Expr}{es:List Expr}{pos:Pos}{m m':M Nat}{g:M D}{st:Stmt}{aw sa sb:List Stmt}{gs:M Fl}{tc:M Bool}
theorem tF (h1:XD X B cl e m) (he:starEach (e::es) X.env=(false,eval e X.env)::starEach es X.env:=by rfl):AX X B cl (e::es) m:=λpos U s Y H Q I q =>
 sx (t:=λ_ _ _=>False) h1 (λ_ _ _ _ _ _ _ z=>z.elim) he pos U s Y H Q I q
@[irreducible] def XI (X:Cx) (B:BB) (cl:Nat->Addr) (st:Stmt) (m:M Nat):Prop:=SX X B cl st m
@[irreducible] def XIs (X:Cx) (B:BB) (cl:Nat->Addr) (ss:List Stmt) (m:M Nat):Prop:=SXs X B cl ss m
theorem qQ (k:SX X B cl st m):XI X B cl st m:=by unfold XI;exact k
theorem sB (k:XIs X B cl aw m):SXs X B cl aw m:=by unfold XIs at k;exact k
theorem uv:XIs X B cl aw nvX:=by unfold XIs;exact JD
theorem qW (k:XI X B cl st m):XIs X B cl [st] m:=by unfold XI at k;unfold XIs;exact EX k
theorem uH (k:XI X B cl st m):XIs X B cl (st::aw) m:=by
 unfold XI at k;unfold XIs
 exact wS (u:=λ_ _ _=>False) k λ_ _ _ _ _ _ z=>z.elim
theorem vk (k:SI X B st gs) (k1:XI X B cl st m) (t:XIs X B cl aw m'):XIs X B cl (st::aw) (orX m (thenX gs m')):=by
 unfold SI at k;unfold XI at k1;unfold XIs at t ⊢;exact Bz k k1 t
theorem FN (k:SI X B st gs) (t:XIs X B cl aw m'):XIs X B cl (st::aw) (thenX gs m'):=by
 unfold SI at k;unfold XIs at t ⊢;exact Bz k DT t
theorem sv (hc:TD X B c tc) (ha:XIs X B cl sa m) (hb:XIs X B cl sb m'):XI X B cl (.If c sa sb pos) (ifX tc m m'):=by
 unfold XIs at ha hb;unfold XI;exact JM hc ha hb
end
end DL
namespace DL
open PySem L2
variable {α β:Type}
def wp (m:M α) (Γ:Gm) (Q:α->Gm->Prop):Prop:=∃ a aa,m Γ=some (a,aa)/\Q a aa
def wpF (g:List R->Option (R×List R)) (rs:List R) (Q:R->List R->Prop):Prop:=∃ r aI,g rs=some (r,aI)/\Q r aI
def wpB (g:List R->Option (R×List R)) (c ds:List D) (Q:R->List D->Prop):Prop:=∃ r c',bcF g c ds=some (r,c')/\Q r c'
section
variable {Γ:Gm}{Q:α->Gm->Prop}{QD:D->Gm->Prop}{QL:List D->Gm->Prop}{QB:Bool->Gm->Prop}{QS:Fl->Gm->Prop}{QU:Unit->Gm->Prop}
theorem wp.mono {m:M α}{Q':α->Gm->Prop} (h:wp m Γ Q) (f:∀ a Γ,Q a Γ->Q' a Γ):wp m Γ Q':=by
 obtain ⟨a,aa,e,q⟩:=h
 exact ⟨a,aa,e,f _ _ q⟩
@[simp ↓] theorem xT {a:α}:wp (ret a) Γ Q↔Q a Γ:=by
 constructor
 ·rintro ⟨b,aa,e,q⟩;cases e;exact q
 ·intro q;exact ⟨_,_,rfl,q⟩
@[simp ↓] theorem qo {β:Type}{m:M β}{f:β->M α}:wp (bnd m f) Γ Q↔wp m Γ λb Z=>wp (f b) Z Q:=by
 constructor
 ·rintro ⟨a,aa,e,q⟩
  obtain ⟨b,Z,e1,e2⟩:=pO e
  exact ⟨b,Z,e1,a,aa,e2,q⟩
 ·rintro ⟨b,Z,e1,a,aa,e2,q⟩
  exact ⟨a,aa,by unfold bnd;rw [e1];exact e2,q⟩
@[simp ↓] theorem IT {a:α}:wp (lft (some a)) Γ Q↔Q a Γ:=by
 constructor
 ·rintro ⟨b,aa,e,q⟩;cases e;exact q
 ·intro q;exact ⟨_,_,rfl,q⟩
theorem so {o:Option α}{a:α} (h:o=some a):wp (lft o) Γ Q↔Q a Γ:=by rw [h,IT]
@[simp ↓] theorem HQ {i:Nat}:wp (nm i) Γ QD↔match Γ[i]? with
  | some (some (.val d))=>QD d Γ
  | some (some (.own ds))=>QD (.lst ds) (Γ.set i (some (.val (.lst ds))))
  | some (some (.fro ds))=>QD (.lst ds) Γ
  | _=>False:=by
 unfold wp nm
 rcases e:Γ[i]? with _ | _ | r
 ·simp
 ·simp
 ·cases r<;>simp<;>exact ⟨λ⟨_,_,⟨h1,h2⟩,q⟩=>by subst h1;subst h2;exact q,λq=>⟨_,_,⟨rfl,rfl⟩,q⟩⟩
@[simp ↓] theorem LH {F:D->D->Option α}{a b:M D}:wp (op2 F a b) Γ Q↔wp a Γ λx Z=>wp b Z λy ah=>wp (lft (F x y)) ah Q:=by simp [op2]
@[simp ↓] theorem LO {F:List D->Option α}{t:M (List D)}:wp (fn1 F t) Γ Q↔wp t Γ λds Z=>wp (lft (F ds)) Z Q:=by simp [fn1]
@[simp ↓] theorem LM:wp nilA Γ QL↔QL [] Γ:=by simp [nilA]
@[simp ↓] theorem M9 {g:M D}{t:M (List D)}:wp (consA g t) Γ QL↔wp g Γ λd Z=>wp t Z λds ah=>QL (d::ds) ah:=by simp [consA]
@[simp ↓] theorem L6 {t:M (List D)}:wp (tupA t) Γ QD↔wp t Γ λds Z=>wp (lft (if ds.length<=lim then some (.tup ds) else none)) Z QD:=by simp [tupA]
@[simp ↓] theorem My {t:M (List D)}:wp (lstA t) Γ QL↔wp t Γ λds Z=>wp (lft (if ds.length<=lim then some ds else none)) Z QL:=by simp [lstA]
@[simp ↓] theorem Ni {t:M (List D)}:wp (frz t) Γ QD↔wp t Γ λds Z=>QD (.lst ds) Z:=by simp [frz]
@[simp ↓] theorem MQ {g:M D}:wp (tst g) Γ QB↔wp g Γ λd Z=>wp (lft (asB d)) Z QB:=by simp [tst]
@[simp] theorem MD {b:Bool}:asB (.bl b)=some b:=rfl
@[simp] theorem Ms {b:Int}:asI (.int b)=some b:=rfl
@[simp ↓] theorem Md {F F':D->D->Option D}{a b c:M D}:wp (chn F F' a b c) Γ QD↔wp a Γ λx Z=>wp b Z λy ah=>wp (lft (F x y)) ah λz aK=>wp (lft (asB z)) aK λk aM=>if k=true then wp c aM λw bU=>wp (lft (F' y w)) bU QD else QD (.bl false) aM:=by
 simp only [chn,qo]
 constructor<;>(intro h;refine h.mono λx Z h=>h.mono λy ah h=>h.mono λz aK h=>h.mono λk aM h=>?_)<;>(cases k<;>simpa using h)
@[simp ↓] theorem Nd {a b:M Bool}:wp (andT a b) Γ QB↔wp a Γ λk Z=>if k=true then wp b Z QB else QB false Z:=by
 simp only [andT,qo]
 constructor<;>(intro h;refine h.mono λk Z h=>?_)<;>(cases k<;>simpa using h)
@[simp ↓] theorem Nc {a b:M Bool}:wp (orT a b) Γ QB↔wp a Γ λk Z=>if k=true then QB true Z else wp b Z QB:=by
 simp only [orT,qo]
 constructor<;>(intro h;refine h.mono λk Z h=>?_)<;>(cases k<;>simpa using h)
@[simp ↓] theorem Li {a:M Bool}:wp (notT a) Γ QB↔wp a Γ λk Z=>QB (!k) Z:=by simp [notT]
@[simp ↓] theorem MI {a b:M D}:wp (andV a b) Γ QD↔wp a Γ λd Z=>wp (lft (asB d)) Z λk ah=>if k=true then wp b ah QD else QD (.bl false) ah:=by
 simp only [andV,qo]
 constructor<;>(intro h;refine h.mono λd Z h=>h.mono λk ah h=>?_)<;>(cases k<;>simpa using h)
@[simp ↓] theorem LX {a:M D}:wp (notV a) Γ QD↔wp a Γ λd Z=>wp (lft (asB d)) Z λk ah=>QD (.bl (!k)) ah:=by simp [notV]
@[simp ↓] theorem Nf {c:M Bool}{a b:M D}:wp (ifV c a b) Γ QD↔wp c Γ λk Z=>if k=true then wp a Z QD else wp b Z QD:=by
 simp only [ifV,qo]
 constructor<;>(intro h;refine h.mono λk Z h=>?_)<;>(cases k<;>simpa using h)
theorem AV {a b:M Fl}:wp (seqS a b) Γ QS↔wp a Γ λf Z=>match f with
  | .nx=>wp b Z QS
  | .rt r=>QS (.rt r) Z
  | .bk=>QS .bk Z
  | .ct=>QS .ct Z:=by
 simp only [seqS,qo]
 constructor<;>(intro h;refine h.mono λf Z h=>?_)<;>(cases f<;>simpa using h)
@[simp ↓] theorem L8 {a:M D}:wp (dropS a) Γ QS↔wp a Γ λ_ Z=>QS .nx Z:=by simp [dropS]
@[simp ↓] theorem Ma {a:M D}:wp (retS a) Γ QS↔wp a Γ λd Z=>QS (.rt (.val d)) Z:=by simp [retS]
@[simp ↓] theorem Mr {a:M (List D)}:wp (retO a) Γ QS↔wp a Γ λd Z=>QS (.rt (.own d)) Z:=by simp [retO]
@[simp ↓] theorem LF {c:M Bool}{a b:M Fl}:wp (ifS c a b) Γ QS↔wp c Γ λk Z=>if k=true then wp a Z QS else wp b Z QS:=by
 simp only [ifS,qo]
 constructor<;>(intro h;refine h.mono λk Z h=>?_)<;>(cases k<;>simpa using h)
@[simp ↓] theorem MH {i:Nat}{q:R}:wp (putS i q) Γ QU↔i < Γ.length/\QU () (Γ.set i (some q)):=by
 unfold wp putS
 constructor
 ·rintro ⟨a,aa,e,h⟩
  obtain ⟨h1,h2⟩:=ql e
  cases h2
  exact ⟨h1,h⟩
 ·rintro ⟨h1,h2⟩
  exact ⟨(),_,by rw [if_pos h1],h2⟩
@[simp ↓] theorem L3 {i:Nat}{d:D}:wp (tgN i d) Γ QU↔i < Γ.length/\QU () (Γ.set i (some (.val d))):=by simp [tgN]
@[simp ↓] theorem LA:wp (tgNil []) Γ QU↔QU () Γ:=by simp [tgNil]
@[simp ↓] theorem Mz {f:D->M Unit}{t:List D->M Unit}{d:D}{ds:List D}:wp (tgCons f t (d::ds)) Γ QU↔wp (f d) Γ λ_ Z=>wp (t ds) Z QU:=by simp [tgCons]
@[simp ↓] theorem Mf {n:Nat}{t:List D->M Unit}{ds:List D}:wp (tgTup n t (.tup ds)) Γ QU↔ds.length=n/\wp (t ds) Γ QU:=by
 unfold tgTup
 by_cases h:ds.length=n
 ·simp [h]
 ·simp only [h,if_false,false_and,iff_false]
  rintro ⟨_,_,e,_⟩;cases e
@[simp ↓] theorem M6 {g:M D}{f:D->M Unit}:wp (asgS g f) Γ QS↔wp g Γ λd Z=>wp (f d) Z λ_ ah=>QS .nx ah:=by simp [asgS]
@[simp ↓] theorem zt {i:Nat}{g:M D}:wp (setV i g) Γ QS↔wp g Γ λd Z=>i < Z.length/\QS .nx (Z.set i (some (.val d))):=by simp [setV]
@[simp ↓] theorem LN {i:Nat}{g:M (List D)}:wp (setO i g) Γ QS↔wp g Γ λd Z=>i < Z.length/\QS .nx (Z.set i (some (.own d))):=by simp [setO]
@[simp ↓] theorem ur {i:Nat}{m:M α}:wp (mutS i m) Γ Q↔isMut Γ i=true/\wp m Γ Q:=by
 unfold mutS wp
 by_cases h:isMut Γ i=true
 ·simp [h]
 ·simp [h]
@[simp ↓] theorem Lv {i:Nat}{F:List D->Option (List D)}:wp (wr i F) Γ QU↔match Γ[i]? with
  | some (some (.own ds))=>∃ es,F ds=some es/\QU () (Γ.set i (some (.own es)))
  | some (some (.bor ds))=>∃ es,F ds=some es/\QU () (Γ.set i (some (.bor es)))
  | _=>False:=by
 unfold wp wr
 rcases e:Γ[i]? with _ | _ | r
 ·simp
 ·simp
 ·cases r with
  | val d=>simp
  | fro d=>simp
  | dic d=>simp
  | own ds =>
   rcases he:F ds with _ | es
   ·simp [he]
   ·simp [he]
    exact ⟨λ⟨_,q⟩=>q,λq=>⟨(),q⟩⟩
  | bor ds =>
   rcases he:F ds with _ | es
   ·simp [he]
   ·simp [he]
    exact ⟨λ⟨_,q⟩=>q,λq=>⟨(),q⟩⟩
@[simp ↓] theorem MG {i:Nat}{g:M D}:wp (appS i g) Γ QS↔isMut Γ i=true/\wp g Γ λd Z=>wp (wr i (appF d)) Z λ_ ah=>QS .nx ah:=by simp only [appS,ur,qo,xT]
@[simp ↓] theorem MS {i:Nat}{gi gv:M D}:wp (stS i gi gv) Γ QS↔wp gv Γ λd Z=>isMut Z i=true/\wp gi Z λn ah=>wp (lft (asI n)) ah λk aK=>wp (wr i (stF k d)) aK λ_ aM=>QS .nx aM:=by simp only [stS,ur,qo,xT]
@[simp ↓] theorem MB {i:Nat}:wp (look i) Γ QD↔match Γ[i]? with
  | some (some (.own ds))=>QD (.lst ds) Γ
  | some (some (.bor ds))=>QD (.lst ds) Γ
  | _=>False:=by
 unfold wp look
 rcases e:Γ[i]? with _ | _ | r
 ·simp
 ·simp
 ·cases r<;>simp<;>exact ⟨λ⟨_,_,⟨h1,h2⟩,q⟩=>by subst h1;subst h2;exact q,λq=>⟨_,_,⟨rfl,rfl⟩,q⟩⟩
@[simp ↓] theorem MJ {i:Nat}{g:M D}:wp (atN i g) Γ QD↔isMut Γ i=true/\wp g Γ λn Z=>wp (look i) Z λl ah=>wp (lft (ixF l n)) ah QD:=by simp only [atN,ur,qo]
@[simp ↓] theorem Mg {g:M D}{QO:Option Int->Gm->Prop}:wp (prt g) Γ QO↔wp g Γ λd Z=>wp (lft (asI d)) Z λi ah=>QO (some i) ah:=by simp [prt]
@[simp ↓] theorem MC {F:D->Option Int->Option Int->Option α}{g:M D}{gl gh:M (Option Int)}:wp (sl3 F g gl gh) Γ Q↔wp g Γ λd Z=>wp gl Z λl ah=>wp gh ah λh aK=>wp (lft (F d l h)) aK Q:=by simp [sl3]
@[simp ↓] theorem Lz {g:M D}:wp (itS g) Γ QL↔wp g Γ λd Z=>wp (lft (seqI d)) Z QL:=by simp [itS]
@[simp ↓] theorem MR {it:M (List D)}{az:D->M Unit}{body:M Fl}:wp (forS it az body) Γ QS↔wp it Γ λds Z=>wp (forM az body ds) Z QS:=by simp [forS]
@[simp ↓] theorem LP {i:Nat}{g:List R->Option (R×List R)}{t:M (List D)}{QR:R->Gm->Prop}:wp (callB i g t) Γ QR↔isMut Γ i=true/\wp t Γ λds Z=>match Z[i]? with
  | some (some (.own c))=>wpB g c ds λr c'=>QR r (Z.set i (some (.own c')))
  | some (some (.bor c))=>wpB g c ds λr c'=>QR r (Z.set i (some (.bor c')))
  | _=>False:=by
 simp only [callB,ur,qo]
 refine and_congr_right λ_=>?_
 have bF:∀ (ds:List D) (Z:Gm),wp (λΓ:Gm=>match Γ[i]? with
   | some (some (.own c))=>match bcF g c ds with
    | some (r,c')=>some (r,Γ.set i (some (.own c')))
    | none=>none
   | some (some (.bor c))=>match bcF g c ds with
    | some (r,c')=>some (r,Γ.set i (some (.bor c')))
    | none=>none
   | _=>none) Z QR↔(match Z[i]? with
  | some (some (.own c))=>wpB g c ds λr c'=>QR r (Z.set i (some (.own c')))
  | some (some (.bor c))=>wpB g c ds λr c'=>QR r (Z.set i (some (.bor c')))
  | _=>False):=by
  intro ds Z
  unfold wp wpB
  dsimp only
  rcases e:Z[i]? with _ | _ | r
  ·simp
  ·simp
  ·cases r with
   | val d=>simp
   | fro d=>simp
   | dic d=>simp
   | own c =>
    rcases he:bcF g c ds with _ | ⟨r,c'⟩
    ·simp [he]
    ·simp only [he]
     constructor
     ·rintro ⟨a,b,h,q⟩;cases h;exact ⟨_,_,rfl,q⟩
     ·rintro ⟨a,b,h,q⟩;cases h;exact ⟨_,_,rfl,q⟩
   | bor c =>
    rcases he:bcF g c ds with _ | ⟨r,c'⟩
    ·simp [he]
    ·simp only [he]
     constructor
     ·rintro ⟨a,b,h,q⟩;cases h;exact ⟨_,_,rfl,q⟩
     ·rintro ⟨a,b,h,q⟩;cases h;exact ⟨_,_,rfl,q⟩
 constructor
 ·intro h;exact h.mono λds Z h=>(bF ds Z).mp h
 ·intro h;exact h.mono λds Z h=>(bF ds Z).mpr h
@[simp ↓] theorem Me {i:Nat}{g:List R->Option (R×List R)}{t:M (List D)}:wp (cbV i g t) Γ QD↔wp (callB i g t) Γ λr Z=>wp (lft (asV r)) Z QD:=by simp only [cbV,qo]
@[simp] theorem LY {d:D}:asV (.val d)=some d:=rfl
@[simp] theorem Lo {d:List D}:asO (.own d)=some d:=rfl
theorem zh {az:D->M Unit}{body:M Fl}{ds:List D} (J:Nat->Gm->Prop) (h0:J 0 Γ)
  (hs:∀ (i:Nat) (d:D) (Γ:Gm),ds[i]?=some d->J i Γ->wp (az d) Γ λ_ Z=>wp body Z λf ah=>match f with
   | .nx=>J (i+1) ah
   | .ct=>J (i+1) ah
   | .bk=>QS .nx ah
   | .rt r=>QS (.rt r) ah) (hd:∀ Γ,J ds.length Γ->QS .nx Γ):wp (forM az body ds) Γ QS:=by
 have bF:∀ (n:Nat) (es:List D) (Γ:Gm) (i:Nat),es.length=n->ds.drop i=es->i<=ds.length->J i Γ->wp (forM az body es) Γ QS:=by
  intro n
  induction n with
  | zero =>
   intro es Γ i hl he hi hj
   have:es=[]:=length_eq_zero_iff.mp hl
   subst this
   have cY:i=ds.length:=by
    have:=congrArg length he
    rw [length_drop] at this
    simp at this;omega
   subst cY
   exact ⟨_,_,rfl,hd Γ hj⟩
  | succ n ih =>
   intro es Γ i hl he hi hj
   cases es with
   | nil=>simp at hl
   | cons d es =>
    have bc:i < ds.length:=by
     have:=congrArg length he
     rw [length_drop,length_cons] at this
     omega
    have dC:ds.drop i=ds[i]::ds.drop (i+1):=drop_eq_getElem_cons bc
    rw [dC] at he
    injection he with e1 e2
    have cx:ds[i]?=some d:=by rw [getElem?_eq_getElem bc,e1]
    have step:=hs i d Γ cx hj
    rw [forM,qo]
    refine step.mono λ_ Z h1=>?_
    rw [qo]
    refine h1.mono λf ah h2=>?_
    cases f with
    | nx=>exact ih es ah (i+1) (by simpa using hl) e2 bc h2
    | ct=>exact ih es ah (i+1) (by simpa using hl) e2 bc h2
    | bk=>exact ⟨_,_,rfl,h2⟩
    | rt r=>exact ⟨_,_,rfl,h2⟩
 exact bF ds.length ds Γ 0 rfl rfl (zero_le _) h0
theorem Bm {n ar:Nat}{body:M Fl}{rs:List R}{QR:R->List R->Prop} (hl:rs.length=ar) (h:wp body (rs.map some++replicate (n - rs.length) none) λf aa=>∃ r,flR f=some r/\∃ l,fin rs aa=some l/\QR r l):wpF (fnD n ar body) rs QR:=by
 obtain ⟨f,aa,e,r,e1,l,e2,q⟩:=h
 refine ⟨r,l,?_,q⟩
 unfold fnD
 rw [if_pos hl]
 unfold fnD1
 rw [e]
 simp only [e1,e2]
theorem Du {g:List R->Option (R×List R)}{ds:List D}{d:D} (h:wpF g (ds.map .val) λr _=>r=.val d):cvF g ds=some d:=by
 obtain ⟨r,aI,e,rfl⟩:=h
 unfold cvF
 rw [e]
theorem F8 {g:List R->Option (R×List R)}{ds:List D}{P:List D->Prop} (h:wpF g (ds.map .val) λr _=>∃ d,r=.own d/\P d):∃ d,coF g ds=some d/\P d:=by
 obtain ⟨r,aI,e,d,rfl,hp⟩:=h
 exact ⟨d,by unfold coF;rw [e],hp⟩
theorem Io {g:List R->Option (R×List R)}{c ds:List D}{QR:R->List D->Prop} (h:wpF g (.bor c::ds.map .val) λr aI=>∃ c' t,aI=.bor c'::t/\QR r c'):wpB g c ds QR:=by
 obtain ⟨r,aI,e,c',t,rfl,q⟩:=h
 exact ⟨r,c',by unfold bcF;rw [e],q⟩
end
end DL
namespace DL
open PySem L2
section
variable {α:Type}{Γ:Gm}{Q:α->Gm->Prop}{QD:D->Gm->Prop}{QL:List D->Gm->Prop}{i j:Int}
@[simp ↓] theorem rD {c:Prop} [Decidable c]{a:α}:wp (lft (if c then some a else none)) Γ Q↔c/\Q a Γ:=by
 by_cases h:c
 ·simp [h]
 ·simp only [h,if_false,false_and,iff_false]
  rintro ⟨_,_,e,_⟩;cases e
@[simp ↓] theorem LW:wp (lft (none:Option α)) Γ Q↔False:=by
 simp only [iff_false]
 rintro ⟨_,_,e,_⟩;cases e
@[simp ↓] theorem L4:wp (λ_=>(none:Option (α×Gm))) Γ Q↔False:=by
 simp only [iff_false]
 rintro ⟨_,_,e,_⟩;cases e
@[simp] theorem MZ:subI (.int i) (.int j)=some (.int (i - j)):=rfl
@[simp] theorem Nb:addF (.int i) (.int j)=some (.int (i+j)):=rfl
@[simp] theorem f_lt:ltI (.int i) (.int j)=some (.bl (decide (i < j))):=rfl
@[simp] theorem f_le:leI (.int i) (.int j)=some (.bl (decide (i<=j))):=rfl
@[simp] theorem f_gt:gtI (.int i) (.int j)=some (.bl (decide (j < i))):=rfl
@[simp] theorem f_ge:geI (.int i) (.int j)=some (.bl (decide (j<=i))):=rfl
@[simp ↓] theorem Lj:wp (lft (modI (.int i) (.int j))) Γ QD↔0 < j/\QD (.int (i % j)) Γ:=by simp [modI,intF]
@[simp ↓] theorem Na:wp (lft (divI (.int i) (.int j))) Γ QD↔(0 < j/\j < 2 ^ 200)/\QD (.int (i / j)) Γ:=by simp only [divI,intF,decide_eq_true_eq,rD]
@[simp ↓] theorem MT:wp (lft (mulI (.int i) (.int j))) Γ QD↔((-(2 ^ 64) < i/\i < 2 ^ 64)\/(-(2 ^ 64) < j/\j < 2 ^ 64))/\QD (.int (i*j)) Γ:=by simp only [mulI,intF,decide_eq_true_eq,rD]
@[simp ↓] theorem L':wp (lft (powI (.int i) (.int j))) Γ QD↔(0<=j/\j<=1000000/\i.natAbs < 2 ^ 64)/\QD (.int (i ^ j.toNat)) Γ:=by simp only [powI,intF,decide_eq_true_eq,rD]
@[simp] theorem LZ {ds:List D}:ixF (.lst ds) (.int i)=atI ds i:=rfl
@[simp] theorem LK {ds:List D}:ixF (.tup ds) (.int i)=atI ds i:=rfl
theorem r8 {α:Type}{ds:List α}{n:Nat}:atI ds (n:Int)=ds[n]?:=by
 unfold atI ixN
 rw [if_pos (by omega)]
 by_cases h:(n:Int) < ds.length
 ·rw [if_pos h];simp
 ·rw [if_neg h]
  have:ds.length<=n:=by omega
  simp [List.getElem?_eq_none this]
@[simp] theorem Mi {α:Type}{a:α}{ds:List α}:atI (a::ds) 0=some a:=by
 rw [show (0:Int)=((0:Nat):Int) from rfl,r8];rfl
@[simp] theorem Lh {α:Type}{a b:α}{ds:List α}:atI (a::b::ds) 1=some b:=by
 rw [show (1:Int)=((1:Nat):Int) from rfl,r8];rfl
@[simp] theorem Mo {α:Type}{a b c:α}{ds:List α}:atI (a::b::c::ds) 2=some c:=by
 rw [show (2:Int)=((2:Nat):Int) from rfl,r8];rfl
theorem BI {α:Type}{ds:List α}{i:Int} (h0:0<=i) (h1:i < ds.length):∃ a,atI ds i=some a/\a∈ds:=by
 obtain ⟨n,rfl⟩:=Int.eq_ofNat_of_zero_le h0
 have h:n < ds.length:=by omega
 exact ⟨ds[n],by rw [r8,getElem?_eq_getElem h],getElem_mem h⟩
@[simp] theorem Lq {a b d:D}{ds:List D}:stF 1 d (a::b::ds)=some (a::d::ds):=by
 unfold stF ixN
 rw [if_pos (by omega),if_pos (by simp;omega)]
 rfl
@[simp] theorem Ld {a b c d:D}{ds:List D}:stF 2 d (a::b::c::ds)=some (a::b::d::ds):=by
 unfold stF ixN
 rw [if_pos (by omega),if_pos (by simp;omega)]
 rfl
@[simp] theorem Lb {ds:List D}:lenF [.lst ds]=some (.int ds.length):=rfl
@[simp] theorem LQ {ds:List D}:lenF [.tup ds]=some (.int ds.length):=rfl
@[simp] theorem Lw {ds:List D}:tupF [.lst ds]=some (.tup ds):=rfl
@[simp] theorem Mm {ds:List D}:tupF [.tup ds]=some (.tup ds):=rfl
@[simp] theorem MP {ds:List D}:lstF [.lst ds]=some ds:=rfl
@[simp] theorem MA {ds:List D}:lstF [.tup ds]=some ds:=rfl
@[simp] theorem Mn {ds:List D}:seqI (.lst ds)=some ds:=rfl
@[simp] theorem Lm {ds:List D}:seqI (.tup ds)=some ds:=rfl
@[simp] theorem Lk {b:Bool}:reprF [.bl b]=some (.str (if b then "True" else "False")):=rfl
@[simp] theorem Mu {ds:List D}{lo hi:Option Int}:slF (.lst ds) lo hi=some (.lst (cutD ds lo hi)):=rfl
@[simp] theorem M0 {xs ys:List D}:zipI [.lst xs,.lst ys]=some (pairsD xs ys):=rfl
@[simp] theorem MF {xs ys:List D}:zipI [.tup xs,.tup ys]=some (pairsD xs ys):=rfl
@[simp] theorem Lc {xs:List D}:enumI [.lst xs]=some (numD 0 xs):=rfl
@[simp] theorem Mc {xs:List D}:enumI [.tup xs]=some (numD 0 xs):=rfl
@[simp ↓] theorem Lr:wp (lft (rngI1 [.int j])) Γ QL↔(-1000000<=j/\j<=1000000)/\QL (rngD 0 j.toNat) Γ:=by simp only [rngI1,rD]
@[simp ↓] theorem ME:wp (lft (rngI2 [.int i,.int j])) Γ QL↔((-1000000<=i/\i<=1000000)/\-1000000<=j/\j<=1000000)/\QL (rngD i (j - i).toNat) Γ:=by simp only [rngI2,rD]
@[simp ↓] theorem Ls {neg:Bool}{a b:D}:wp (lft (eqF neg a b)) Γ QD↔(dep a<=100\/dep b<=100)/\QD (.bl (if neg then !deq a b else deq a b)) Γ:=by simp only [eqF,rD]
@[simp ↓] theorem M4 {xs ys:List D}:wp (lft (catF (.lst xs) (.lst ys))) Γ QL↔xs.length+ys.length<=lim/\QL (xs++ys) Γ:=by simp only [catF,rD]
@[simp ↓] theorem Nj {xs ys:List D}:wp (lft (addF (.tup xs) (.tup ys))) Γ QD↔xs.length+ys.length<=lim/\QD (.tup (xs++ys)) Γ:=by simp only [addF,rD]
@[simp] theorem LS {a:Int}:dep (.int a)=0:=by simp [dep]
@[simp] theorem MW {a:Bool}:dep (.bl a)=0:=by simp [dep]
@[simp] theorem LI {a:Str}:dep (.str a)=0:=by simp [dep]
@[simp] theorem M8:dep (.lst [])=1:=by simp [dep,depA]
@[simp] theorem M7 {a b:Bool}:deq (.bl a) (.bl b)=(a == b):=by simp [deq]
@[simp] theorem Ly {a b:Str}:deq (.str a) (.str b)=(a == b):=by simp [deq]
@[simp] theorem qM {a b:Int}:deq (.int a) (.int b)=(a == b):=by simp [deq]
@[simp] theorem ML {ds:List D}:deq (.lst ds) (.lst [])=ds.isEmpty:=by cases ds<;>simp [deq,deqA]
@[simp] theorem Ng {a b:Bool}:deq (.str (if a then "True" else "False")) (.str (if b then "True" else "False"))=(a == b):=by cases a<;>cases b<;>decide
@[simp] theorem DD:lim=1000000:=rfl
theorem xD {n d k:Nat}:HT.sIx n d (some (k:Int))=min k n:=by
 show (if (k:Int) < 0 then ((k:Int)+(n:Int)).toNat else min (k:Int).toNat n)=min k n
 rw [if_neg (by omega),toNat_natCast]
theorem CO {ds:List D}{n:Nat}:cutD ds none (some (n:Int))=ds.take n:=by
 unfold cutD
 rw [xD,HT.Bx]
 simp
theorem BL {ds:List D}{n:Nat}:cutD ds (some (n:Int)) none=ds.drop n:=by
 unfold cutD
 rw [xD,HT.Bx,List.take_of_length_le (by simp)]
 by_cases h:n<=ds.length
 ·rw [Nat.min_eq_left h]
 ·rw [Nat.min_eq_right (by omega),drop_of_length_le (le_refl _),drop_of_length_le (by omega)]
@[simp] theorem MK {d:D}{ds:List D}{P:List D->Prop}:(∃ es,appF d ds=some es/\P es)↔ds.length < 1000000/\P (ds++[d]):=by
 unfold appF
 rw [DD]
 by_cases h:ds.length < 1000000<;>simp [h]
theorem pR {a b:M Fl}{QS:Fl->Gm->Prop} (h:∀ K:Fl->Gm->Prop,(∀ Z,wp b Z QS->K .nx Z)->(∀ r Z,QS (.rt r) Z->K (.rt r) Z)->wp a Γ K):wp (seqS a b) Γ QS:=by
 rw [AV]
 exact h _ (λ_ h=>h) (λ_ _ h=>h)
theorem xF {a b:M Fl}{QS:Fl->Gm->Prop} (P:Gm->Prop) (h:∀ K:Fl->Gm->Prop,(∀ Z,P Z->K .nx Z)->(∀ r Z,QS (.rt r) Z->K (.rt r) Z)->wp a Γ K) (h2:∀ Z,P Z->wp b Z QS):wp (seqS a b) Γ QS:=by
 rw [AV]
 exact h _ (λ_ p=>h2 _ p) (λ_ _ h=>h)
theorem sf {az:D->M Unit}{body:M Fl}{ds:List D}{QS:Fl->Gm->Prop} (J:Nat->Gm->Prop) (h0:J 0 Γ)
  (hs:∀ (i:Nat) (d:D) (Γ:Gm),ds[i]?=some d->J i Γ->∀ K:Fl->Gm->Prop,(∀ ah,J (i+1) ah->K .nx ah)->(∀ ah,J (i+1) ah->K .ct ah)->(∀ ah,QS .nx ah->K .bk ah)->(∀ r ah,QS (.rt r) ah->K (.rt r) ah)->wp (az d) Γ λ_ Z=>wp body Z K) (hd:∀ Γ,J ds.length Γ->QS .nx Γ):wp (forM az body ds) Γ QS :=
 zh J h0 (λi d Γ h j=>hs i d Γ h j _ (λ_ h=>h) (λ_ h=>h) (λ_ h=>h) (λ_ _ h=>h)) hd
theorem sw {n ar:Nat}{body:M Fl}{rs:List R}{QR:R->List R->Prop} (hl:rs.length=ar) (h:∀ K:Fl->Gm->Prop,(∀ r aa,(∃ l,fin rs aa=some l/\QR r l)->K (.rt r) aa)->(∀ aa,(∃ l,fin rs aa=some l/\QR (.val .non) l)->K .nx aa)->wp body (rs.map some++replicate (n - rs.length) none) K):wpF (fnD n ar body) rs QR :=
 Bm hl (h _ (λr _ h=>⟨r,rfl,h⟩) (λ_ h=>⟨_,rfl,h⟩))
theorem rF {n ar:Nat}{body:M Fl}{c ds:List D}{QR:R->List D->Prop} (hl:ds.length+1=ar) (h:∀ K:Fl->Gm->Prop,(∀ r c' aa,(∃ t,fin (ds.map .val) aa=some t)->QR r c'->K (.rt r) (some (.bor c')::aa))->(∀ c' aa,(∃ t,fin (ds.map .val) aa=some t)->QR (.val .non) c'->K .nx (some (.bor c')::aa))->wp body ((.bor c::ds.map .val).map some++replicate (n - (ds.length+1)) none) K):wpB (fnD n ar body) c ds QR:=by
 refine Io (sw (by simpa using hl) λK k1 k2=>?_)
 refine (by simpa using h K (λr c' aa ⟨t,e⟩ q=>k1 r _ ⟨_,by simp [fin,e],c',t,rfl,q⟩) (λc' aa ⟨t,e⟩ q=>k2 _ ⟨_,by simp [fin,e],c',t,rfl,q⟩))
theorem EU {α:Type}{m:Nat}{az:D->M Unit}{ts:M Bool}{el:M D}{it:M (List D)} (xs:List α) (f:α->D) (p:α->Bool) (v:α->D)
  (h:wp it Γ λds Z=>ds=xs.map f/\xs.length<=1000000/\(∀ x∈xs,∀ cs:Gm,cs.length=m->wp (az (f x)) (cs++Z) λ_ ah=>wp ts ah λb aK=>b=p x/\(if b=true then wp el aK λy aM=>y=v x/\∃ bQ,bQ.length=m/\aM=bQ++Z else ∃ bQ,bQ.length=m/\aK=bQ++Z)) ∧
   QL ((xs.filter p).map v) Z):wp (compO m it az ts el) Γ QL:=by
 unfold compO
 rw [qo]
 refine h.mono λds Z ⟨eC,hl,hp,hq⟩=>?_
 subst eC
 rw [if_pos (by simpa using hl)]
 have bF:∀ (es:List α) (cs:Gm),(∀ d∈es,d∈xs)->cs.length=m->∃ bQ,bQ.length=m/\compM az ts el (es.map f) (cs++Z)=some ((es.filter p).map v,bQ++Z):=by
  intro es
  induction es with
  | nil=>intro cs _ hc;exact ⟨cs,hc,rfl⟩
  | cons d es ih =>
   intro cs hm hc
   obtain ⟨u,ah,e1,b,aK,e2,hb,h3⟩:=hp d (hm d mem_cons_self) cs hc
   have fm:∀ d∈es,d∈xs:=λd hd=>hm d (mem_cons_of_mem _ hd)
   cases b with
   | false =>
    rw [if_neg Bool.false_ne_true] at h3
    obtain ⟨bQ,bx,rfl⟩:=h3
    obtain ⟨jQ,cz,e3⟩:=ih bQ fm bx
    refine ⟨jQ,cz,?_⟩
    rw [map_cons,compM]
    unfold bnd
    simp only [e1,e2,false_eq_true,if_false]
    rw [e3,List.filter_cons,← hb]
    simp
   | true =>
    rw [if_pos rfl] at h3
    obtain ⟨x,aM,e4,rfl,bQ,bx,rfl⟩:=h3
    obtain ⟨jQ,cz,e3⟩:=ih bQ fm bx
    refine ⟨jQ,cz,?_⟩
    rw [map_cons,compM]
    unfold bnd
    simp only [e1,e2,if_true,e4]
    rw [e3,List.filter_cons,← hb]
    rfl
 obtain ⟨bQ,bx,e⟩:=bF xs (replicate m none) (λ_ h=>h) (by simp)
 refine ⟨_,_,?_,hq⟩
 unfold inC
 rw [e]
 simp [bx,List.drop_append]
theorem qK {α:Type}{az:D->M Unit}{ts:M Bool}{el:M D}{it:M (List D)} (xs:List α) (f:α->D) (p:α->Bool) (v:α->D)
  (h:wp it Γ λds Z=>ds=xs.map f/\xs.length<=1000000/\(∀ x∈xs,∀ a,wp (az (f x)) (a::Z) λ_ ah=>wp ts ah λb aK=>b=p x/\(if b=true then wp el aK λy aM=>y=v x/\∃ a',aM=a'::Z else ∃ a',aK=a'::Z)) ∧
   QL ((xs.filter p).map v) Z):wp (compO 1 it az ts el) Γ QL:=by
 refine EU xs f p v (h.mono λds Z ⟨h1,h2,h3,h4⟩=>⟨h1,h2,λx hx cs hc=>?_,h4⟩)
 obtain ⟨a,rfl⟩:=List.length_eq_one_iff.mp hc
 refine (h3 x hx a).mono λ_ ah h=>h.mono λb aK ⟨h5,h6⟩=>⟨h5,?_⟩
 cases b with
 | true=>simp only [if_true] at h6 ⊢;exact h6.mono λy aM ⟨h7,a',h8⟩=>⟨h7,[a'],rfl,h8⟩
 | false=>simp only [false_eq_true,if_false] at h6 ⊢;obtain ⟨a',h8⟩:=h6;exact ⟨[a'],rfl,h8⟩
theorem qh {n ar:Nat}{body:M Fl}{ds:List D}{d:D} (hl:ds.length=ar) (h:∀ K:Fl->Gm->Prop,(∀ aa,(∃ l,fin (ds.map .val) aa=some l)->K (.rt (.val d)) aa)->(∀ aa,d=.non->(∃ l,fin (ds.map .val) aa=some l)->K .nx aa)->wp body ((ds.map .val).map some++replicate (n - ds.length) none) K):cvF (fnD n ar body) ds=some d:=by
 refine Du (sw (by simpa using hl) λK k1 k2=>?_)
 have:=h K (λaa ⟨l,e⟩=>k1 _ _ ⟨l,e,rfl⟩) (λaa hd ⟨l,e⟩=>k2 _ ⟨l,e,by rw [hd]⟩)
 simpa using this
theorem Ak {α:Type}{f:α->Bool}{xs:List α}:blsD (xs.map λx=>.bl (f x))=some (xs.map f):=by
 induction xs with
 | nil=>rfl
 | cons x xs ih=>simp only [map_cons,blsD,ih]
theorem vh {α:Type}{f:α->Bool}{xs:List α}:allF [.lst (xs.map λx=>.bl (f x))]=some (.bl (xs.all f)):=by
 unfold allF
 simp only [Ak]
 simp [comp_def]
theorem FK {α:Type}{f:α->Bool}{xs:List α}:anyF [.lst (xs.map λx=>.bl (f x))]=some (.bl (xs.any f)):=by
 unfold anyF
 simp only [Ak]
 simp [comp_def]
end
section
variable {α:Type}{Γ:Gm}{Q:α->Gm->Prop}{QD:D->Gm->Prop}{QL:List D->Gm->Prop}{i j:Int}
theorem CQ {xs:List D} (h:SortOk xs):sortF [.lst xs]=some (sortD xs):=by
 unfold sortF
 exact if_pos h
end
end DL
namespace DL
theorem uN {α:Type}:∀ (l m:List α),l.Nodup->(∀ x∈l,x∈m)->l.length<=m.length
 | [],m,_,_=>zero_le _
 | x::l,m,nd,h=>by
  obtain ⟨a,b,rfl⟩:=List.append_of_mem (h x mem_cons_self)
  rw [nodup_cons] at nd
  have:=uN l (a++b) nd.2 (λy hy=>by
   have:=h y (mem_cons_of_mem _ hy)
   rcases mem_append.mp this with z | z
   ·exact (mem_append_left _ z)
   ·rcases mem_cons.mp z with z | z
    ·subst z;exact absurd hy nd.1
    ·exact (mem_append_right _ z))
  simp at this ⊢
  omega
theorem Kr {n ar:Nat}{body:M Fl}{ds:List D}{os:List D} (hl:ds.length=ar) (h:∀ K:Fl->Gm->Prop,(∀ aa,(∃ l,fin (ds.map .val) aa=some l)->K (.rt (.own os)) aa)->wp body ((ds.map .val).map some++replicate (n - ds.length) none) K):coF (fnD n ar body) ds=some os:=by
 have w:wpF (fnD n ar body) (ds.map .val) λr _=>r=.own os:=sw (by simpa using hl) λK k1 _=>by
  have:=h K (λaa ⟨l,e⟩=>k1 _ _ ⟨l,e,rfl⟩)
  simpa using this
 obtain ⟨r,aI,e,rfl⟩:=w
 unfold coF
 rw [e]
end DL
namespace Own
open PySem PySem.Spec PyProof.Rows L2 DL
noncomputable def B0:M Fl :=
 (retS (andV (un1 (isiF .iT) (nm 0)) (notV (un1 (isiF .bT) (nm 0)))))
noncomputable def qR:List R->Option (R×List R):=fnD 1 1 B0
noncomputable def yF:M Fl :=
 (retS (andV (fn1 (cvF qR) (consA (nm 0) nilA)) (chn leI leI (ret (.int 0)) (nm 0) (ret (.int 9)))))
noncomputable def sN:List R->Option (R×List R):=fnD 1 1 yF
noncomputable def yM:M Fl :=
 (seqS (ifS (orT (notT (tst (un1 (isiF .tT) (nm 0)))) (tst (op2 (eqF true) (fn1 lenF (consA (nm 0) nilA)) (ret (.int 2)))))
  (retS (ret (.bl false))) (ret .nx))
  (retS (andV (fn1 (cvF sN) (consA (op2 ixF (nm 0) (ret (.int 0))) nilA)) (andV (fn1 (cvF sN) (consA (op2 ixF (nm 0) (ret (.int 1))) nilA)) (op2 leI (op2 ixF (nm 0) (ret (.int 0))) (op2 ixF (nm 0) (ret (.int 1))))))))
noncomputable def uQ:List R->Option (R×List R):=fnD 1 1 yM
noncomputable def w4:M Fl :=
 (retS (andV (un1 (isiF .tT) (nm 0)) (chn leI leI (ret (.int 1)) (fn1 lenF (consA (nm 0) nilA)) (ret (.int 3)))))
noncomputable def ud:List R->Option (R×List R):=fnD 1 1 w4
noncomputable def yU:M Fl :=
 (retS (andV (fn1 (cvF ud) (consA (nm 0) nilA)) (fn1 allF (consA (frz (compO 1 (itS (nm 0)) (tgN 0) (ret true) (fn1 (cvF sN) (consA (nm 0) nilA)))) nilA))))
noncomputable def rW:List R->Option (R×List R):=fnD 1 1 yU
noncomputable def yT:M Fl :=
 (retS (andV (fn1 (cvF ud) (consA (nm 0) nilA)) (fn1 allF (consA (frz (compO 1 (itS (nm 0)) (tgN 0) (ret true) (fn1 (cvF uQ) (consA (nm 0) nilA)))) nilA))))
noncomputable def rK:List R->Option (R×List R):=fnD 1 1 yT
noncomputable def vo:M Fl :=
 (seqS (ifS (orT (notT (tst (un1 (isiF .tT) (nm 1)))) (tst (op2 (eqF true) (fn1 lenF (consA (nm 1) nilA)) (ret (.int 2)))))
  (retS (ret (.bl false))) (ret .nx))
  (retS (andV (fn1 (cvF qR) (consA (op2 ixF (nm 1) (ret (.int 0))) nilA)) (andV (fn1 (cvF qR) (consA (op2 ixF (nm 1) (ret (.int 1))) nilA)) (chn3 leI ltI ltI (ret (.int 0)) (op2 ixF (nm 1) (ret (.int 0))) (op2 ixF (nm 1) (ret (.int 1))) (nm 0))))))
noncomputable def tU:List R->Option (R×List R):=fnD 2 2 vo
noncomputable def y6:M Fl :=
 (ifS (notT (tst (chn leI ltI (ret (.int 0)) (nm 1) (op2 ixF (nm 0) (ret (.int 0))))))
  (λ_=>none) (ret .nx))
noncomputable def tf:List R->Option (R×List R):=fnD 2 2 y6
noncomputable def yA:M Fl :=
 (seqS (dropS (fn1 (cvF tf) (consA (nm 0) (consA (nm 1) nilA))))
  (retO (fn1 sortF (consA (frz (compO 1 (itS (op2 ixF (nm 0) (ret (.int 1)))) (tgN 0) (tst (op2 (inF false) (nm 2) (nm 0))) (ifV (tst (op2 (eqF false) (op2 ixF (nm 0) (ret (.int 0))) (nm 2))) (op2 ixF (nm 0) (ret (.int 1))) (op2 ixF (nm 0) (ret (.int 0)))))) nilA))))
noncomputable def vq:List R->Option (R×List R):=fnD 2 2 yA
noncomputable def vC (g:List R->Option (R×List R)):M Fl :=
 (seqS (ifS (tst (op2 (eqF false) (nm 2) (nm 3)))
  (retO (lstA (consA (nm 2) nilA))) (ret .nx))
  (seqS (forS (itS (frz (fn1 (coF vq) (consA (nm 0) (consA (nm 2) nilA))))) (tgN 4)
  (ifS (tst (op2 (eqF true) (nm 4) (nm 1)))
  (seqS (setV 5 (altM (frz (fn1 (coF g) (consA (nm 0) (consA (nm 2) (consA (nm 4) (consA (nm 3) nilA)))))) (fn1 (cvF g) (consA (nm 0) (consA (nm 2) (consA (nm 4) (consA (nm 3) nilA)))))))
  (ifS (tst (op2 (isNF true) (nm 5) (ret .non)))
  (retO (op2 catF (frz (lstA (consA (nm 2) nilA))) (nm 5))) (ret .nx))) (ret .nx)))
  (retS (ret .non))))
noncomputable def rS:Nat->List R->Option (R×List R)
 | 0=>λ_=>none
 | k+1=>fnD 6 4 (vC (rS k))
noncomputable def wd:M Fl :=
 (seqS (dropS (fn1 (cvF tf) (consA (nm 0) (consA (nm 1) nilA))))
  (seqS (dropS (fn1 (cvF tf) (consA (nm 0) (consA (nm 2) nilA))))
  (altM (retO (fn1 (coF (rS 21)) (consA (nm 0) (consA (ret .non) (consA (nm 1) (consA (nm 2) nilA)))))) (retS (fn1 (cvF (rS 21)) (consA (nm 0) (consA (ret .non) (consA (nm 1) (consA (nm 2) nilA)))))))))
noncomputable def sA:List R->Option (R×List R):=fnD 3 3 wd
noncomputable def ye:M Fl :=
 (seqS (forS (fn1 enumI (consA (nm 1) nilA)) (tgTup 2 (tgCons (tgN 2) (tgCons (tgN 3) tgNil)))
  (ifS (tst (op2 (isNF true) (altM (frz (fn1 (coF sA) (consA (tupA (consA (nm 0) (consA (sl3 slF (nm 1) (ret none) (prt (nm 2))) nilA))) (consA (op2 ixF (nm 3) (ret (.int 0))) (consA (op2 ixF (nm 3) (ret (.int 1))) nilA))))) (fn1 (cvF sA) (consA (tupA (consA (nm 0) (consA (sl3 slF (nm 1) (ret none) (prt (nm 2))) nilA))) (consA (op2 ixF (nm 3) (ret (.int 0))) (consA (op2 ixF (nm 3) (ret (.int 1))) nilA))))) (ret .non)))
  (retS (ret (.bl true))) (ret .nx)))
  (retS (ret (.bl false))))
noncomputable def uY:List R->Option (R×List R):=fnD 4 2 ye
noncomputable def uT:M Fl :=
 (seqS (ifS (orT (notT (tst (un1 (isiF .tT) (nm 0)))) (tst (op2 (eqF true) (fn1 lenF (consA (nm 0) nilA)) (ret (.int 2)))))
  (retS (ret (.bl false))) (ret .nx))
  (seqS (setV 1 (op2 ixF (nm 0) (ret (.int 0))))
  (seqS (setV 2 (op2 ixF (nm 0) (ret (.int 1))))
  (seqS (ifS (orT (notT (tst (fn1 (cvF qR) (consA (nm 1) nilA)))) (orT (notT (tst (chn leI leI (ret (.int 1)) (nm 1) (ret (.int 8))))) (notT (tst (un1 (isiF .tT) (nm 2))))))
  (retS (ret (.bl false))) (ret .nx))
  (seqS (ifS (notT (tst (fn1 allF (consA (frz (compO 1 (itS (nm 2)) (tgN 0) (ret true) (fn1 (cvF tU) (consA (nm 2) (consA (nm 0) nilA))))) nilA))))
  (retS (ret (.bl false))) (ret .nx))
  (retS (andV (op2 (eqF false) (frz (fn1 lstF (consA (nm 2) nilA))) (frz (fn1 setTF (consA (nm 2) nilA)))) (notV (fn1 (cvF uY) (consA (nm 1) (consA (nm 2) nilA)))))))))))
noncomputable def rz:List R->Option (R×List R):=fnD 3 1 uT
noncomputable def xL:M Fl :=
 (retS (fn1 (joinF ",") (consA (frz (compO 1 (itS (nm 0)) (tgN 0) (ret true) (fn1 strIF (consA (nm 0) nilA)))) nilA)))
noncomputable def sR:List R->Option (R×List R):=fnD 1 1 xL
noncomputable def yX:M Fl :=
 (retS (fn1 (joinF "-") (consA (frz (compO 1 (itS (nm 0)) (tgN 0) (ret true) (fn1 strIF (consA (nm 0) nilA)))) nilA)))
noncomputable def ub:List R->Option (R×List R):=fnD 1 1 yX
noncomputable def xa:M Fl :=
 (retS (fn1 (joinF ",") (consA (frz (compO 1 (itS (nm 0)) (tgN 0) (ret true) (fn1 (cvF ub) (consA (nm 0) nilA)))) nilA)))
noncomputable def sY:List R->Option (R×List R):=fnD 1 1 xa
noncomputable def xA:M Fl :=
 (retS (fn1 (joinF " ") (consA (frz (op2 catF (frz (lstA (consA (fn1 strIF (consA (op2 ixF (nm 0) (ret (.int 0))) nilA)) nilA))) (frz (compO 1 (itS (op2 ixF (nm 0) (ret (.int 1)))) (tgN 0) (ret true) (fn1 (cvF ub) (consA (nm 0) nilA)))))) nilA)))
noncomputable def sQ:List R->Option (R×List R):=fnD 1 1 xA
noncomputable def AQ:M Fl :=
 (seqS (ifS (orT (notT (tst (chn leI leI (ret (.int 1)) (fn1 lenSF (consA (nm 0) nilA)) (ret (.int 4))))) (tst (fn1 anyF (consA (frz (compO 1 (itT (nm 0)) (tgN 0) (ret true) (op2 ninSF (nm 0) (ret (.str "0123456789"))))) nilA))))
  (λ_=>none) (ret .nx))
  (seqS (ifS (andT (tst (op2 (eqF false) (op2 ixSF (nm 0) (ret (.int 0))) (ret (.str "0")))) (tst (op2 (eqF true) (nm 0) (ret (.str "0")))))
  (λ_=>none) (ret .nx))
  (retS (fn1 intTF (consA (nm 0) nilA)))))
noncomputable def qA:List R->Option (R×List R):=fnD 1 1 AQ
noncomputable def A6:M Nat :=
 (orX (ifX (orT (notT (tst (chn leI leI (ret (.int 1)) (fn1 lenSF (consA (nm 0) nilA)) (ret (.int 4))))) (tst (fn1 anyF (consA (frz (compO 1 (itT (nm 0)) (tgN 0) (ret true) (op2 ninSF (nm 0) (ret (.str "0123456789"))))) nilA))))
  (raX 0 (consA (ret (.str "it is no number of few figures")) nilA)) nvX) (thenX (ifS (orT (notT (tst (chn leI leI (ret (.int 1)) (fn1 lenSF (consA (nm 0) nilA)) (ret (.int 4))))) (tst (fn1 anyF (consA (frz (compO 1 (itT (nm 0)) (tgN 0) (ret true) (op2 ninSF (nm 0) (ret (.str "0123456789"))))) nilA))))
  (λ_=>none) (ret .nx))
  (ifX (andT (tst (op2 (eqF false) (op2 ixSF (nm 0) (ret (.int 0))) (ret (.str "0")))) (tst (op2 (eqF true) (nm 0) (ret (.str "0")))))
  (raX 0 (consA (ret (.str "a 0 stands ahead")) nilA)) nvX)))
noncomputable def rE:List D->Option Nat:=fnE 1 1 A6
noncomputable def yl:M Fl :=
 (seqS (setV 1 (fn1 tupF (consA (frz (compO 1 (itS (frz (splS 0 (consA (ret (.str ",")) nilA)))) (tgN 0) (ret true) (fn1 (cvF qA) (consA (nm 0) nilA)))) nilA)))
  (seqS (ifS (notT (tst (fn1 (cvF rW) (consA (nm 1) nilA))))
  (λ_=>none) (ret .nx))
  (retS (nm 1))))
noncomputable def vn:List R->Option (R×List R):=fnD 2 1 yl
noncomputable def vL:M Nat :=
 (orX (compX 1 (itS (frz (splS 0 (consA (ret (.str ",")) nilA)))) (tgN 0) (fn1 (cvF qA) (consA (nm 0) nilA)) (fnX rE (consA (nm 0) nilA))) (thenX (setV 1 (fn1 tupF (consA (frz (compO 1 (itS (frz (splS 0 (consA (ret (.str ",")) nilA)))) (tgN 0) (ret true) (fn1 (cvF qA) (consA (nm 0) nilA)))) nilA)))
  (ifX (notT (tst (fn1 (cvF rW) (consA (nm 1) nilA))))
  (raX 0 (consA (ret (.str "it is no letter")) nilA)) nvX)))
noncomputable def vj:List D->Option Nat:=fnE 2 1 vL
noncomputable def xH:M Fl :=
 (retS (fn1 tupF (consA (frz (compO 1 (itS (frz (splS 0 (consA (ret (.str "-")) nilA)))) (tgN 0) (ret true) (fn1 (cvF qA) (consA (nm 0) nilA)))) nilA)))
noncomputable def qG:List R->Option (R×List R):=fnD 1 1 xH
noncomputable def vx:M Nat :=
 (compX 1 (itS (frz (splS 0 (consA (ret (.str "-")) nilA)))) (tgN 0) (fn1 (cvF qA) (consA (nm 0) nilA)) (fnX rE (consA (nm 0) nilA)))
noncomputable def su:List D->Option Nat:=fnE 1 1 vx
noncomputable def xB:M Fl :=
 (seqS (setV 1 (fn1 tupF (consA (frz (compO 1 (itS (frz (splS 0 (consA (ret (.str ",")) nilA)))) (tgN 0) (ret true) (fn1 (cvF qG) (consA (nm 0) nilA)))) nilA)))
  (seqS (ifS (notT (tst (fn1 (cvF rK) (consA (nm 1) nilA))))
  (λ_=>none) (ret .nx))
  (retS (nm 1))))
noncomputable def u3:List R->Option (R×List R):=fnD 2 1 xB
noncomputable def vO:M Nat :=
 (orX (compX 1 (itS (frz (splS 0 (consA (ret (.str ",")) nilA)))) (tgN 0) (fn1 (cvF qG) (consA (nm 0) nilA)) (fnX su (consA (nm 0) nilA))) (thenX (setV 1 (fn1 tupF (consA (frz (compO 1 (itS (frz (splS 0 (consA (ret (.str ",")) nilA)))) (tgN 0) (ret true) (fn1 (cvF qG) (consA (nm 0) nilA)))) nilA)))
  (ifX (notT (tst (fn1 (cvF rK) (consA (nm 1) nilA))))
  (raX 0 (consA (ret (.str "it is no wish")) nilA)) nvX)))
noncomputable def vI:List D->Option Nat:=fnE 2 1 vO
noncomputable def ze:M Fl :=
 (seqS (setV 1 (frz (splS 0 (consA (ret (.str " ")) nilA))))
  (seqS (setV 2 (tupA (consA (fn1 (cvF qA) (consA (op2 ixF (nm 1) (ret (.int 0))) nilA)) (consA (fn1 tupF (consA (frz (compO 1 (itS (sl3 slF (nm 1) (prt (ret (.int 1))) (ret none))) (tgN 0) (ret true) (fn1 (cvF qG) (consA (nm 0) nilA)))) nilA)) nilA))))
  (seqS (ifS (notT (tst (fn1 (cvF rz) (consA (nm 2) nilA))))
  (λ_=>none) (ret .nx))
  (retS (nm 2)))))
noncomputable def uz:List R->Option (R×List R):=fnD 3 1 ze
noncomputable def uG:M Nat :=
 (thenX (setV 1 (frz (splS 0 (consA (ret (.str " ")) nilA))))
  (orX (orX (fnX rE (consA (op2 ixF (nm 1) (ret (.int 0))) nilA)) (bnd (fn1 (cvF qA) (consA (op2 ixF (nm 1) (ret (.int 0))) nilA)) λ_=>(compX 1 (itS (sl3 slF (nm 1) (prt (ret (.int 1))) (ret none))) (tgN 0) (fn1 (cvF qG) (consA (nm 0) nilA)) (fnX su (consA (nm 0) nilA))))) (thenX (setV 2 (tupA (consA (fn1 (cvF qA) (consA (op2 ixF (nm 1) (ret (.int 0))) nilA)) (consA (fn1 tupF (consA (frz (compO 1 (itS (sl3 slF (nm 1) (prt (ret (.int 1))) (ret none))) (tgN 0) (ret true) (fn1 (cvF qG) (consA (nm 0) nilA)))) nilA)) nilA))))
  (ifX (notT (tst (fn1 (cvF rz) (consA (nm 2) nilA))))
  (raX 0 (consA (ret (.str "it is no web")) nilA)) nvX))))
noncomputable def vG:List D->Option Nat:=fnE 3 1 uG
noncomputable def xy:M Fl :=
 (seqS (ifS (tst (op2 geI (nm 0) (op2 powI (ret (.int 10)) (ret (.int 18)))))
  (retS (nm 0)) (ret .nx))
  (seqS (setV 2 (op2 modI (op2 addF (op2 addF (op2 mulI (op2 modI (nm 0) (ret (.int 998244353))) (ret (.int 40692))) (op2 mulI (nm 1) (ret (.int 69621)))) (ret (.int 1009))) (ret (.int 2147483399))))
  (seqS (setV 3 (op2 modI (op2 addF (op2 addF (op2 mulI (nm 2) (nm 2)) (op2 mulI (nm 1) (ret (.int 48271)))) (op2 modI (nm 0) (ret (.int 131071)))) (ret (.int 2147483647))))
  (seqS (setV 4 (op2 modI (op2 addF (op2 addF (op2 mulI (nm 3) (nm 3)) (op2 mulI (nm 2) (ret (.int 17)))) (ret (.int 3))) (ret (.int 2147483629))))
  (retS (op2 addF (op2 mulI (op2 addF (op2 mulI (nm 2) (ret (.int 2147483647))) (nm 3)) (ret (.int 2147483629))) (nm 4)))))))
noncomputable def ut:List R->Option (R×List R):=fnD 5 2 xy
noncomputable def yW:M Fl :=
 (seqS (setO 1 (fn1 lstF (consA (sl3 slF (nm 0) (ret none) (prt (ret (.int 12)))) nilA)))
  (seqS (forS (fn1 enumI (consA (sl3 slF (nm 0) (prt (ret (.int 12))) (prt (ret (.int 63)))) nilA)) (tgTup 2 (tgCons (tgN 2) (tgCons (tgN 3) tgNil)))
  (stS 1 (op2 modI (nm 2) (ret (.int 12))) (op2 addF (atN 1 (op2 modI (nm 2) (ret (.int 12)))) (nm 3))))
  (retO (lstA (consA (nm 1) (consA (ret (.int 0)) (consA (ret (.int 0)) nilA)))))))
noncomputable def tx:List R->Option (R×List R):=fnD 4 1 yW
noncomputable def wT:M Fl :=
 (seqS (ifS (tst (op2 ltI (atN 0 (ret (.int 2))) (nm 1)))
  (seqS (setV 2 (atN 0 (ret (.int 1))))
  (seqS (setV 3 (op2 mulI (ret (.int 11)) (nm 2)))
  (seqS (ifS (tst (op2 ltI (nm 2) (fn1 lenF (consA (atN 0 (ret (.int 0))) nilA))))
  (setV 3 (op2 ixF (atN 0 (ret (.int 0))) (nm 2))) (ifS (tst (op2 (eqF true) (atN 0 (ret (.int 0))) (frz (lstA nilA))))
  (setV 3 (op2 modI (op2 ixF (atN 0 (ret (.int 0))) (op2 modI (op2 addF (op2 mulI (nm 2) (ret (.int 7))) (ret (.int 1))) (fn1 lenF (consA (atN 0 (ret (.int 0))) nilA)))) (op2 addF (op2 powI (ret (.int 10)) (ret (.int 17))) (op2 mulI (ret (.int 3)) (nm 2))))) (ret .nx)))
  (seqS (stS 0 (ret (.int 1)) (op2 addF (nm 2) (ret (.int 1))))
  (stS 0 (ret (.int 2)) (fn1 (cvF ut) (consA (nm 3) (consA (nm 2) nilA)))))))) (ret .nx))
  (seqS (setV 4 (op2 modI (atN 0 (ret (.int 2))) (nm 1)))
  (seqS (stS 0 (ret (.int 2)) (op2 divI (atN 0 (ret (.int 2))) (nm 1)))
  (retS (nm 4)))))
noncomputable def qB:List R->Option (R×List R):=fnD 5 2 wT
noncomputable def yb:M Fl :=
 (seqS (setO 2 (lstA nilA))
  (seqS (forS (fn1 rngI1 (consA (nm 1) nilA)) (tgN 3)
  (insS 2 (consA (cbV 0 qB (consA (op2 addF (nm 3) (ret (.int 1))) nilA)) (consA (nm 3) nilA))))
  (retS (nm 2))))
noncomputable def u9:List R->Option (R×List R):=fnD 4 2 yb
noncomputable def wO:M Fl :=
 (seqS (setV 2 (cbV 0 qB (consA (ret (.int 4)) nilA)))
  (seqS (setV 3 (op2 addF (ret (.int 1)) (cbV 0 qB (consA (nm 1) nilA))))
  (seqS (setV 4 (cbV 0 u9 (consA (nm 3) nilA)))
  (seqS (setO 5 (lstA nilA))
  (seqS (forS (fn1 rngI2 (consA (ret (.int 1)) (consA (nm 3) nilA))) (tgN 6)
  (ifS (tst (op2 geI (cbV 0 qB (consA (ret (.int 6)) nilA)) (nm 2)))
  (seqS (setV 7 (tupA (consA (op2 ixF (nm 4) (nm 6)) (consA (op2 ixF (nm 4) (cbV 0 qB (consA (nm 6) nilA))) nilA))))
  (appS 5 (tupA (consA (fn1 minTF (consA (nm 7) nilA)) (consA (fn1 maxTF (consA (nm 7) nilA)) nilA))))) (ret .nx)))
  (retS (tupA (consA (nm 3) (consA (fn1 tupF (consA (frz (fn1 sortF (consA (nm 5) nilA))) nilA)) nilA)))))))))
noncomputable def vF:List R->Option (R×List R):=fnD 8 2 wO
noncomputable def wz:M Fl :=
 (seqS (setV 2 (cbV 0 qB (consA (ret (.int 4)) nilA)))
  (seqS (setV 3 (cbV 0 qB (consA (nm 1) nilA)))
  (seqS (setV 4 (cbV 0 qB (consA (op2 subI (nm 1) (nm 3)) nilA)))
  (retS (op2 ixF (frz (lstA (consA (tupA (consA (ret (.int 0)) (consA (op2 subI (nm 1) (ret (.int 1))) nilA))) (consA (tupA (consA (nm 3) (consA (nm 3) nilA))) (consA (tupA (consA (nm 3) (consA (op2 addF (nm 3) (nm 4)) nilA))) (consA (tupA (consA (nm 3) (consA (fn1 minF (consA (op2 subI (nm 1) (ret (.int 1))) (consA (op2 addF (nm 3) (ret (.int 2))) nilA))) nilA))) nilA)))))) (nm 2))))))
noncomputable def uS:List R->Option (R×List R):=fnD 5 2 wz
noncomputable def wC:M Fl :=
 (retS (fn1 tupF (consA (frz (compO 1 (fn1 rngI1 (consA (nm 1) nilA)) (tgN 0) (ret true) (cbV 1 uS (consA (nm 3) nilA)))) nilA)))
noncomputable def tG:List R->Option (R×List R):=fnD 3 3 wC
noncomputable def wn:M Fl :=
 (retS (fn1 tupF (consA (frz (compO 1 (fn1 rngI1 (consA (nm 1) nilA)) (tgN 0) (ret true) (cbV 1 qB (consA (ret (.int 10)) nilA)))) nilA)))
noncomputable def ux:List R->Option (R×List R):=fnD 2 2 wn
noncomputable def tM:M Fl :=
 (seqS (setV 2 (ret .non))
  (seqS (tryN (ifS (tst (op2 (eqF false) (nm 0) (ret (.int 0))))
  (setV 2 (fn1 (cvF vn) (consA (nm 1) nilA))) (ifS (tst (op2 (eqF false) (nm 0) (ret (.int 1))))
  (setV 2 (fn1 (cvF u3) (consA (nm 1) nilA))) (setV 2 (fn1 (cvF uz) (consA (nm 1) nilA))))) (ifX (tst (op2 (eqF false) (nm 0) (ret (.int 0))))
  (fnX vj (consA (nm 1) nilA)) (ifX (tst (op2 (eqF false) (nm 0) (ret (.int 1))))
  (fnX vI (consA (nm 1) nilA)) (fnX vG (consA (nm 1) nilA)))) 0 2)
  (retS (nm 2))))
noncomputable def qN:List R->Option (R×List R):=fnD 3 2 tM
noncomputable def uf:M Fl :=
 (seqS (ifS (tst (op2 (eqF false) (nm 0) (ret (.int 0))))
  (retS (fn1 (cvF sR) (consA (nm 1) nilA))) (ret .nx))
  (retS (ifV (tst (op2 (eqF false) (nm 0) (ret (.int 1)))) (fn1 (cvF sY) (consA (nm 1) nilA)) (fn1 (cvF sQ) (consA (nm 1) nilA)))))
noncomputable def qS:List R->Option (R×List R):=fnD 2 2 uf
noncomputable def ul:M Fl :=
 (seqS (ifS (tst (op2 (eqF false) (nm 0) (ret (.int 0))))
  (retS (fn1 (cvF rW) (consA (nm 1) nilA))) (ret .nx))
  (retS (ifV (tst (op2 (eqF false) (nm 0) (ret (.int 1)))) (fn1 (cvF rK) (consA (nm 1) nilA)) (fn1 (cvF rz) (consA (nm 1) nilA)))))
noncomputable def rY:List R->Option (R×List R):=fnD 2 2 ul
noncomputable def tW:M Fl :=
 (seqS (ifS (tst (op2 (eqF false) (nm 1) (ret (.int 2))))
  (seqS (asgS (nm 2) (tgTup 2 (tgCons (tgN 3) (tgCons (tgN 4) tgNil))))
  (seqS (setV 5 (cbV 0 qB (consA (op2 addF (fn1 lenF (consA (nm 4) nilA)) (ret (.int 1))) nilA)))
  (retS (tupA (consA (nm 3) (consA (op2 addF (altM (sl3 slF (nm 4) (ret none) (prt (nm 5))) (sl3 slWF (nm 4) (ret none) (prt (nm 5)))) (altM (sl3 slF (nm 4) (prt (op2 addF (nm 5) (ret (.int 1)))) (ret none)) (sl3 slWF (nm 4) (prt (op2 addF (nm 5) (ret (.int 1)))) (ret none)))) nilA)))))) (ret .nx))
  (seqS (setV 5 (cbV 0 qB (consA (fn1 lenF (consA (nm 2) nilA)) nilA)))
  (seqS (setV 6 (ifV (tst (op2 (eqF false) (nm 1) (ret (.int 0)))) (cbV 0 ux (consA (ret (.int 1)) nilA)) (cbV 0 tG (consA (ret (.int 1)) (consA (ret (.int 10)) nilA)))))
  (retS (op2 addF (op2 addF (altM (sl3 slF (nm 2) (ret none) (prt (nm 5))) (sl3 slWF (nm 2) (ret none) (prt (nm 5)))) (nm 6)) (altM (sl3 slF (nm 2) (prt (op2 addF (nm 5) (ret (.int 1)))) (ret none)) (sl3 slWF (nm 2) (prt (op2 addF (nm 5) (ret (.int 1)))) (ret none))))))))
noncomputable def vc:List R->Option (R×List R):=fnD 7 3 tW
noncomputable def wa:M Fl :=
 (seqS (setO 1 (fn1 (coF tx) (consA (nm 0) nilA)))
  (seqS (forS (fn1 rngI1 (consA (ret (.int 5)) nilA)) (tgN 2)
  (seqS (setV 3 (op2 addF (ret (.int 1)) (cbV 1 qB (consA (ret (.int 3)) nilA))))
  (seqS (setV 4 (frz (lstA (consA (cbV 1 ux (consA (nm 3) nilA)) (consA (cbV 1 tG (consA (nm 3) (consA (ret (.int 10)) nilA))) (consA (cbV 1 vF (consA (ret (.int 8)) nilA)) nilA))))))
  (seqS (forS (fn1 enumI (consA (nm 4) nilA)) (tgTup 2 (tgCons (tgN 5) (tgCons (tgN 6) tgNil)))
  (seqS (setV 7 (fn1 (cvF qS) (consA (nm 5) (consA (nm 6) nilA))))
  (seqS (ifS (orT (tst (op2 (eqF true) (fn1 (cvF qN) (consA (nm 5) (consA (nm 7) nilA))) (nm 6))) (tst (op2 (isBF true) (fn1 (cvF rY) (consA (nm 5) (consA (fn1 (cvF qN) (consA (nm 5) (consA (nm 7) nilA))) nilA))) (ret (.bl true)))))
  (retS (ret (.bl false))) (ret .nx))
  (seqS (setV 8 (cbV 1 vc (consA (nm 5) (consA (nm 6) nilA))))
  (seqS (ifS (tst (op2 (eqF true) (op2 (eqF false) (fn1 (cvF qS) (consA (nm 5) (consA (nm 8) nilA))) (nm 7)) (op2 (eqF false) (nm 8) (nm 6))))
  (retS (ret (.bl false))) (ret .nx))
  (ifS (andT (tst (op2 ltI (nm 5) (ret (.int 2)))) (tst (op2 (isNF true) (fn1 (cvF qN) (consA (op2 subI (ret (.int 1)) (nm 5)) (consA (nm 7) nilA))) (ret .non))))
  (retS (ret (.bl false))) (ret .nx)))))))
  (seqS (setV 7 (fn1 (joinF "") (consA (frz (compO 1 (fn1 rngI1 (consA (op2 addF (ret (.int 1)) (cbV 1 qB (consA (ret (.int 8)) nilA))) nilA)) (tgN 0) (ret true) (op2 ixSF (ret (.str "0123456789,,--- ")) (cbV 2 qB (consA (ret (.int 16)) nilA))))) nilA)))
  (forS (fn1 rngI1 (consA (ret (.int 3)) nilA)) (tgN 5)
  (seqS (setV 9 (fn1 (cvF qN) (consA (nm 5) (consA (nm 7) nilA))))
  (ifS (andT (tst (op2 (isNF true) (nm 9) (ret .non))) (tst (op2 (eqF true) (fn1 (cvF qS) (consA (nm 5) (consA (nm 9) nilA))) (nm 7))))
  (retS (ret (.bl false))) (ret .nx)))))))))
  (retS (ret (.bl true)))))
noncomputable def sk:List R->Option (R×List R):=fnD 10 1 wa
theorem nk {N:List Str} (h:decide N.Nodup=true:=by kernel_rfl):N.Nodup:=of_decide_eq_true h
theorem en (i:Nat){X:Cx}{B:BB}{x:Str}{pos:Pos} (hN:X.N[i]?=some x:=by rfl) (hv:visB X.env.scope x=true:=by rfl) (hd:(x == ("__debug__":Str))=false:=by decide) (bW:(x == ("__classdict__":Str))=false:=by decide):ED X B (.Name x pos) (nm i):=E7 (pv i hN hv hd bW)
noncomputable def top (i:Nat):Stmt:=PySem.Challenge.pw_roofpost_k73_whole_written_and_read.main.body.getD i (.Pass ⟨0,0,0,0⟩)
noncomputable abbrev yK:Stmt:=top 8
noncomputable abbrev yC:Stmt:=top 9
noncomputable abbrev wR:Stmt:=top 10
noncomputable abbrev xo:Stmt:=top 11
noncomputable abbrev yd:Stmt:=top 12
noncomputable abbrev wt:Stmt:=top 13
noncomputable abbrev xP:Stmt:=top 16
noncomputable abbrev wb:Stmt:=top 17
noncomputable abbrev yO:Stmt:=top 18
noncomputable abbrev wI:Stmt:=top 19
noncomputable abbrev wV:Stmt:=top 20
noncomputable abbrev wH:Stmt:=top 21
noncomputable abbrev vV:Stmt:=top 22
noncomputable abbrev xh:Stmt:=top 26
noncomputable abbrev ww:Stmt:=top 27
noncomputable abbrev xV:Stmt:=top 28
noncomputable abbrev xm:Stmt:=top 29
noncomputable abbrev uK:Stmt:=top 30
noncomputable abbrev vP:Stmt:=top 31
noncomputable abbrev uO:Stmt:=top 32
noncomputable abbrev vN:Stmt:=top 33
noncomputable abbrev vi:Stmt:=top 34
noncomputable abbrev v8:Stmt:=top 36
noncomputable abbrev yo:Stmt:=top 37
noncomputable abbrev yN:Stmt:=top 38
noncomputable abbrev xO:Stmt:=top 39
noncomputable abbrev yL:Stmt:=top 40
noncomputable abbrev yk:Stmt:=top 41
noncomputable abbrev yP:Stmt:=top 42
noncomputable abbrev yZ:Stmt:=top 43
noncomputable abbrev yi:Stmt:=top 44
noncomputable abbrev xg:Stmt:=top 45
noncomputable abbrev xw:Stmt:=top 46
noncomputable abbrev y8:Stmt:=top 47
noncomputable abbrev wA:Stmt:=top 48
structure CdX (P:Program) (w:World) (K:PySem.W.Frag) (mg:Str->Option Value) (base:Heap) (cl:Nat->Addr) (k:Nat) (f:Addr) (fd:FuncData) (ps:List Str) (gx:List D->Option Nat) (x:Str):Prop where
 G:FnOk P w K mg base (CXX P w) k f fd ps (spE K cl gx)
 b:Binds K fd ps []
 p:PySem.W.keepIn K (.ref f)=true
 m:mg x=some (.ref f)
theorem cqX {X:Cx}{B:BB}{cl:Nat->Addr}{e:Expr}{es:List Expr}{pos p:Pos}{k kr:Nat}{f:Addr}{fd:FuncData}{ps:List Str}{x:Str}{gx:List D->Option Nat}{t:M (List D)} (G:CdX X.prog X.w X.K X.mg X.base cl k f fd ps gx x) (hr:Room kr X.A) (ha:AD X B (e::es) t) (hk:k<=kr:=by decide) (hg:Gl X x:=by exact rfl) (aW:(x == ("__debug__":Str))=false:=by decide) (he:starEach (e::es) X.env=(false,eval e X.env)::starEach es X.env:=by rfl) (aA:(backTo pos (starEach es X.env)).any (·.1)=false:=by rfl):XD X B cl (.Call (.Name x p) (e::es) [] pos) (fnX gx t):=EW G.G (hr.mono hk) hg G.m G.p G.b ha aW he aA
structure Cd (P:Program) (w:World) (K:PySem.W.Frag) (mg:Str->Option Value) (base:Heap) (k:Nat) (f:Addr) (fd:FuncData) (ps:List Str) (g:List R->Option (R×List R)) (x:Str):Prop where
 G:FnOk P w K mg base CX0 k f fd ps (spD K g)
 b:Binds K fd ps []
 p:PySem.W.keepIn K (.ref f)=true
 m:mg x=some (.ref f)
abbrev yG (P w K mg base f fd):=Cd P w K mg base 2 f fd ["thing"] qR "is_whole"
abbrev A4 (P w K mg base f fd):=Cd P w K mg base 3 f fd ["thing"] sN "is_figure"
abbrev JQ (P w K mg base f fd):=Cd P w K mg base 4 f fd ["thing"] uQ "is_pair"
abbrev zU (P w K mg base f fd):=Cd P w K mg base 2 f fd ["thing"] ud "has_fields"
abbrev wW (P w K mg base f fd):=Cd P w K mg base 4 f fd ["thing"] rW "is_letter"
abbrev wM (P w K mg base f fd):=Cd P w K mg base 5 f fd ["thing"] rK "is_wish"
abbrev yz (P w K mg base f fd):=Cd P w K mg base 29 f fd ["thing"] rz "is_web"
abbrev Fh (P w K mg base f fd):=Cd P w K mg base 3 f fd ["many", "thing"] tU "is_road"
abbrev K5 (P w K mg base f fd):=Cd P w K mg base 28 f fd ["many", "roads"] uY "has_ring"
abbrev CB (P w K mg base f fd):=Cd P w K mg base 2 f fd ["web", "house"] tf "must_be_house"
abbrev Bi (P w K mg base f fd):=Cd P w K mg base 3 f fd ["web", "house"] vq "neighbours_of"
abbrev Iz (P w K mg base f fd):=Cd P w K mg base 27 f fd ["web", "one", "other"] sA "way_between"
abbrev J6 (P w K mg base f fd):=Cd P w K mg base 26 f fd ["web", "came", "house", "other"] (rS 21) "way_on"
abbrev Jk (P w K mg base f fd):=Cd P w K mg base 2 f fd ["letter"] sR "show_letter"
abbrev GN (P w K mg base f fd):=Cd P w K mg base 3 f fd ["wish"] sY "show_wish"
abbrev Ds (P w K mg base f fd):=Cd P w K mg base 3 f fd ["web"] sQ "show_web"
abbrev Ad (P w K mg base f fd):=Cd P w K mg base 2 f fd ["pair"] ub "show_pair"
abbrev K8 (P w K mg base f fd):=Cd P w K mg base 5 f fd ["text"] vn "read_letter"
abbrev DX (P w K mg base f fd):=Cd P w K mg base 6 f fd ["text"] u3 "read_wish"
abbrev FU (P w K mg base f fd):=Cd P w K mg base 30 f fd ["text"] uz "read_web"
abbrev u6 (P w K mg base f fd):=Cd P w K mg base 3 f fd ["text"] qG "read_pair"
abbrev sU (P w K mg base f fd):=Cd P w K mg base 2 f fd ["text"] qA "read_number"
abbrev De (P w K mg base f fd):=Cd P w K mg base 2 f fd ["cell", "at"] ut "_law_blend"
abbrev Ev (P w K mg base f fd):=Cd P w K mg base 2 f fd ["script"] tx "_law_pot"
abbrev sP (P w K mg base f fd):=Cd P w K mg base 3 f fd ["pot", "many"] qB "_law_pick"
abbrev Dv (P w K mg base f fd):=Cd P w K mg base 4 f fd ["pot", "many"] u9 "_law_order"
abbrev IH (P w K mg base f fd):=Cd P w K mg base 5 f fd ["pot", "most"] vF "_law_web"
abbrev K9 (P w K mg base f fd):=Cd P w K mg base 4 f fd ["pot", "top"] uS "_law_pair"
abbrev A2 (P w K mg base f fd):=Cd P w K mg base 5 f fd ["pot", "fields", "top"] tG "_law_wish"
abbrev BV (P w K mg base f fd):=Cd P w K mg base 4 f fd ["pot", "fields"] ux "_law_letter"
abbrev Ez (P w K mg base f fd):=Cd P w K mg base 31 f fd ["way", "text"] qN "_law_read"
abbrev Gy (P w K mg base f fd):=Cd P w K mg base 4 f fd ["way", "thing"] qS "_law_shown"
abbrev G5 (P w K mg base f fd):=Cd P w K mg base 30 f fd ["way", "thing"] rY "_law_is_it"
abbrev Fd (P w K mg base f fd):=Cd P w K mg base 6 f fd ["pot", "way", "thing"] vc "_law_other"
abbrev sF (P w K mg base cl f fd):=CdX P w K mg base cl 2 f fd ["text"] rE "read_number"
abbrev vQ (P w K mg base cl f fd):=CdX P w K mg base cl 3 f fd ["text"] su "read_pair"
abbrev Jl (P w K mg base cl f fd):=CdX P w K mg base cl 5 f fd ["text"] vj "read_letter"
abbrev GL (P w K mg base cl f fd):=CdX P w K mg base cl 6 f fd ["text"] vI "read_wish"
abbrev Dw (P w K mg base cl f fd):=CdX P w K mg base cl 30 f fd ["text"] vG "read_web"
section
variable {P:Program}{w:World}{K:PySem.W.Frag}{mg:Str->Option Value}{base:Heap}{cl:Nat->Addr}
theorem E3:FnScope ["thing"] ["thing"] (defScope yK):=⟨rfl,rfl,rfl,by decide +kernel,rfl,by decide +kernel,by decide +kernel⟩
theorem DW {f:Addr}{fd:FuncData} (F:Fun K "is_whole" "is_whole" yK f fd) (am:mg "isinstance"=none) (dG:mg "bool"=none) (bR:mg "int"=none):FnOk P w K mg base CX0 2 f fd ["thing"] (spD K qR) :=
 qc (k:=1) (N:=["thing"]) F E3 B0 (λao A outer s H E B hr=>qb
  (pP (pQ (pW (rm (Kk rfl am rfl bR (en 0)) (rN (BP (Dr rfl am rfl dG (en 0)))))))))
theorem Ef:FnScope ["thing"] ["thing"] (defScope yC):=⟨rfl,rfl,rfl,by decide +kernel,rfl,by decide +kernel,by decide +kernel⟩
theorem Hh {f:Addr}{fd:FuncData} (F:Fun K "is_figure" "is_figure" yC f fd) {cN' cg'} (bM:yG P w K mg base cN' cg'){da:Tok} (db:mg "LEAST"=some (.int 0 da)){dH:Tok} (dI:mg "MOST"=some (.int 9 dH)):FnOk P w K mg base CX0 3 f fd ["thing"] (spD K sN) :=
 qc (k:=2) (N:=["thing"]) F Ef yF (λao A outer s H E B hr=>qb
  (pP (pQ (pW (rm (pU bM.G (hr.mono (by decide)) rfl bM.m bM.p bM.b (f' (en 0) ki rfl)) (rN (zM (ed_c (v:=.int 0) (qZ rfl db ⟨_,rfl⟩) (λ_=>Is.int _)) (en 0) (ed_c (v:=.int 9) (qZ rfl dI ⟨_,rfl⟩) (λ_=>Is.int _)))))))))
theorem HR:FnScope ["thing"] ["thing"] (defScope wR):=⟨rfl,rfl,rfl,by decide +kernel,rfl,by decide +kernel,by decide +kernel⟩
theorem FR {f:Addr}{fd:FuncData} (F:Fun K "is_pair" "is_pair" wR f fd) {e2' ei'} (cG:A4 P w K mg base e2' ei') (aC:mg "len"=none) (am:mg "isinstance"=none) (ae:mg "tuple"=none):FnOk P w K mg base CX0 4 f fd ["thing"] (spD K uQ) :=
 qc (k:=3) (N:=["thing"]) F HR yM (λao A outer s H E B hr=>qb
  (pS (qg (TW.td (rB (qC (qF (tw rfl am rfl ae (en 0)))) (rP (rb hr (rM rfl aC (f' (en 0) ki rfl)) pN))))
  (pP (pQ (pW qL))) qk)
  (pP (pQ (pW (rm (pU cG.G (hr.mono (by decide)) rfl cG.m cG.p cG.b (f' (qf (en 0) pN) ki rfl)) (rm (pU cG.G (hr.mono (by decide)) rfl cG.m cG.p cG.b (f' (qf (en 0) pN) ki rfl)) (rN (IE (qf (en 0) pN) (qf (en 0) pN))))))))))
theorem D':FnScope ["thing"] ["thing"] (defScope xo):=⟨rfl,rfl,rfl,by decide +kernel,rfl,by decide +kernel,by decide +kernel⟩
theorem Ee {f:Addr}{fd:FuncData} (F:Fun K "has_fields" "has_fields" xo f fd) (aC:mg "len"=none) (am:mg "isinstance"=none) (ae:mg "tuple"=none){bj:Tok} (bo:mg "MOST_FIELDS"=some (.int 3 bj)):FnOk P w K mg base CX0 2 f fd ["thing"] (spD K ud) :=
 qc (k:=1) (N:=["thing"]) F D' w4 (λao A outer s H E B hr=>qb
  (pP (pQ (pW (rm (tw rfl am rfl ae (en 0)) (rN (zM pN (rM rfl aC (f' (en 0) ki rfl)) (ed_c (v:=.int 3) (qZ rfl bo ⟨_,rfl⟩) (λ_=>Is.int _)))))))))
theorem DB:FnScope ["thing"] ["thing"] (defScope yd):=⟨rfl,rfl,rfl,by decide +kernel,rfl,by decide +kernel,by decide +kernel⟩
theorem JA {f:Addr}{fd:FuncData} (F:Fun K "is_letter" "is_letter" yd f fd) {e2' ei'} (cG:A4 P w K mg base e2' ei') {ej' dI'} (dJ:zU P w K mg base ej' dI') (bH:mg "all"=none):FnOk P w K mg base CX0 4 f fd ["thing"] (spD K rW) :=
 qc (k:=3) (N:=["thing"]) F DB yU (λao A outer s H E B hr=>qb
  (pP (pQ (pW (rm (pU dJ.G (hr.mono (by decide)) rfl dJ.m dJ.p dJ.b (f' (en 0) ki rfl)) (rN (wk rfl rfl bH (f' (pX (qt (N':=["number", "-thing"]) (m:=1) (CompScope.of (by kernel_rfl)) rfl (qv (en 0)) (λ_ _ _ _=>(gd_n (i:=0) (m:=1) nk)) (λ_ _ _ _=>qp) (λ_ _ _ _=>(pU cG.G (hr.mono (by decide)) rfl cG.m cG.p cG.b (f' (en 0) ki rfl))))) ki rfl))))))))
theorem DA:FnScope ["thing"] ["thing"] (defScope wt):=⟨rfl,rfl,rfl,by decide +kernel,rfl,by decide +kernel,by decide +kernel⟩
theorem Hu {f:Addr}{fd:FuncData} (F:Fun K "is_wish" "is_wish" wt f fd) {pI' nW'} (gZ:JQ P w K mg base pI' nW') {ej' dI'} (dJ:zU P w K mg base ej' dI') (bH:mg "all"=none):FnOk P w K mg base CX0 5 f fd ["thing"] (spD K rK) :=
 qc (k:=4) (N:=["thing"]) F DA yT (λao A outer s H E B hr=>qb
  (pP (pQ (pW (rm (pU dJ.G (hr.mono (by decide)) rfl dJ.m dJ.p dJ.b (f' (en 0) ki rfl)) (rN (wk rfl rfl bH (f' (pX (qt (N':=["pair", "-thing"]) (m:=1) (CompScope.of (by kernel_rfl)) rfl (qv (en 0)) (λ_ _ _ _=>(gd_n (i:=0) (m:=1) nk)) (λ_ _ _ _=>qp) (λ_ _ _ _=>(pU gZ.G (hr.mono (by decide)) rfl gZ.m gZ.p gZ.b (f' (en 0) ki rfl))))) ki rfl))))))))
theorem EL:FnScope ["thing", "many", "roads"] ["thing"] (defScope xP):=⟨rfl,rfl,rfl,by decide +kernel,rfl,by decide +kernel,by decide +kernel⟩
theorem JV {f:Addr}{fd:FuncData} (F:Fun K "is_web" "is_web" xP f fd) {cN' cg'} (bM:yG P w K mg base cN' cg') {pJ' nX'} (g0:Fh P w K mg base pJ' nX') {nY' md'} (g7:K5 P w K mg base nY' md') (aC:mg "len"=none) (am:mg "isinstance"=none) (ae:mg "tuple"=none) (bH:mg "all"=none) (aS:mg "sorted"=none) (eR:mg "set"=none) (bS:mg "list"=none){bp:Tok} (bq:mg "MOST_HOUSES"=some (.int 8 bp)):FnOk P w K mg base CX0 29 f fd ["thing"] (spD K rz) :=
 qc (k:=28) (N:=["thing", "many", "roads"]) F EL uT (λao A outer s H E B hr=>qb
  (pS (qg (TW.td (rB (qC (qF (tw rfl am rfl ae (en 0)))) (rP (rb hr (rM rfl aC (f' (en 0) ki rfl)) pN))))
  (pP (pQ (pW qL))) qk)
  (pS (pZ (i:=1) nk (qf (en 0) pN))
  (pS (pZ (i:=2) nk (qf (en 0) pN))
  (pS (qg (TW.td (rB (qC (qF (pU bM.G (hr.mono (by decide)) rfl bM.m bM.p bM.b (f' (en 1) ki rfl)))) (rB (qC (uy pN (en 1) (ed_c (v:=.int 8) (qZ rfl bq ⟨_,rfl⟩) (λ_=>Is.int _)))) (rP (qC (qF (tw rfl am rfl ae (en 2))))))))
  (pP (pQ (pW qL))) qk)
  (pS (qg (qC (qF (wk rfl rfl bH (f' (pX (qt (N':=["road", "-thing", "many", "-roads"]) (m:=1) (CompScope.of (by kernel_rfl)) rfl (qv (en 2)) (λ_ _ _ _=>(gd_n (i:=0) (m:=1) nk)) (λ_ _ _ _=>qp) (λ_ _ _ _=>(pU g0.G (hr.mono (by decide)) rfl g0.m g0.p g0.b (f' (en 2) (f' (en 0) ki rfl) rfl))))) ki rfl))))
  (pP (pQ (pW qL))) qk)
  (pP (pQ (pW (rm (yw hr (pX (BZ rfl bS (f' (en 2) ki rfl))) (pX (GI hr rfl aS rfl eR (f' (en 2) ki rfl)))) (rN (BP (pU g7.G (hr.mono (by decide)) rfl g7.m g7.p g7.b (f' (en 1) (f' (en 2) ki rfl) rfl))))))))))))))
theorem EG:FnScope ["many", "thing"] ["many", "thing"] (defScope wb):=⟨rfl,rfl,rfl,by decide +kernel,rfl,by decide +kernel,by decide +kernel⟩
theorem Eh {f:Addr}{fd:FuncData} (F:Fun K "is_road" "is_road" wb f fd) {cN' cg'} (bM:yG P w K mg base cN' cg') (aC:mg "len"=none) (am:mg "isinstance"=none) (ae:mg "tuple"=none):FnOk P w K mg base CX0 3 f fd ["many", "thing"] (spD K tU) :=
 qc (k:=2) (N:=["many", "thing"]) F EG vo (λao A outer s H E B hr=>qb
  (pS (qg (TW.td (rB (qC (qF (tw rfl am rfl ae (en 1)))) (rP (rb hr (rM rfl aC (f' (en 1) ki rfl)) pN))))
  (pP (pQ (pW qL))) qk)
  (pP (pQ (pW (rm (pU bM.G (hr.mono (by decide)) rfl bM.m bM.p bM.b (f' (qf (en 1) pN) ki rfl)) (rm (pU bM.G (hr.mono (by decide)) rfl bM.m bM.p bM.b (f' (qf (en 1) pN) ki rfl)) (rN (IP pN (qf (en 1) pN) (qf (en 1) pN) (en 0))))))))))
theorem Gp:FnScope ["many", "roads", "k", "road"] ["many", "roads"] (defScope yO):=⟨rfl,rfl,rfl,by decide +kernel,rfl,by decide +kernel,by decide +kernel⟩
theorem Fb {f:Addr}{fd:FuncData} (F:Fun K "has_ring" "has_ring" yO f fd) {jP' i1'} (em:Iz P w K mg base jP' i1') (aG:mg "enumerate"=none):FnOk P w K mg base CX0 28 f fd ["many", "roads"] (spD K uY) :=
 qc (k:=27) (N:=["many", "roads", "k", "road"]) F Gp ye (λao A outer s H E B hr=>qb
  (pS (rQ never rfl (yH rfl aG (f' (en 1) ki rfl)) (uV (m:=100) rfl (rU (gd_n (i:=2) (m:=100) nk) (rU (gd_n (i:=3) (m:=100) nk) uD)))
  (pP (qg (vS (sM (pX (ua em.G (hr.mono (by decide)) rfl em.m em.p em.b (f' (qO (f' (en 0) (f' (qT (en 1) qI (qE (en 2))) ki rfl) rfl)) (f' (qf (en 3) pN) (f' (qf (en 3) pN) ki rfl) rfl) rfl))) (pU em.G (hr.mono (by decide)) rfl em.m em.p em.b (f' (qO (f' (en 0) (f' (qT (en 1) qI (qE (en 2))) ki rfl) rfl)) (f' (qf (en 3) pN) (f' (qf (en 3) pN) ki rfl) rfl) rfl))) rp)
  (pP (pQ (pW qL))) qk)))
  (pP (pQ (pW qL)))))
theorem Jq:FnScope ["web", "house"] ["web", "house"] (defScope wI):=⟨rfl,rfl,rfl,by decide +kernel,rfl,by decide +kernel,by decide +kernel⟩
theorem Eu {f:Addr}{fd:FuncData} (F:Fun K "must_be_house" "must_be_house" wI f fd) :FnOk P w K mg base CX0 2 f fd ["web", "house"] (spD K tf) :=
 qc (k:=1) (N:=["web", "house"]) F Jq y6 (λao A outer s H E B hr=>qb
  (pP (qg (qC (KN pN (en 1) (qf (en 0) pN)))
  (pP (pQ r9)) qk)))
theorem FY:FnScope ["web", "house"] ["web", "house"] (defScope wV):=⟨rfl,rfl,rfl,by decide +kernel,rfl,by decide +kernel,by decide +kernel⟩
theorem FZ {f:Addr}{fd:FuncData} (F:Fun K "neighbours_of" "neighbours_of" wV f fd) {cO' ct'} (cH:CB P w K mg base cO' ct') (aS:mg "sorted"=none):FnOk P w K mg base CX0 3 f fd ["web", "house"] (spD K vq) :=
 qc (k:=2) (N:=["web", "house"]) F FY yA (λao A outer s H E B hr=>qb
  (pS (pQ (wq (pU cH.G (hr.mono (by decide)) rfl cH.m cH.p cH.b (f' (en 0) (f' (en 1) ki rfl) rfl))))
  (pP (pQ (t3 (AH hr rfl aS (f' (pX (qt (N':=["road", "-web", "house"]) (m:=1) (CompScope.of (by kernel_rfl)) rfl (qv (qf (en 0) pN)) (λ_ _ _ _=>(gd_n (i:=0) (m:=1) nk)) (λ_ _ _ _=>(Kg (Jb hr (en 2) (en 0)))) (λ_ _ _ _=>(vz (qJ hr (qf (en 0) pN) (en 2)) (qf (en 0) pN) (qf (en 0) pN))))) ki rfl)))))))
theorem Jo:FnScope ["web", "one", "other"] ["web", "one", "other"] (defScope wH):=⟨rfl,rfl,rfl,by decide +kernel,rfl,by decide +kernel,by decide +kernel⟩
theorem Et {f:Addr}{fd:FuncData} (F:Fun K "way_between" "way_between" wH f fd) {cO' ct'} (cH:CB P w K mg base cO' ct') {qV' pK'} (eu:J6 P w K mg base qV' pK'):FnOk P w K mg base CX0 27 f fd ["web", "one", "other"] (spD K sA) :=
 qc (k:=26) (N:=["web", "one", "other"]) F Jo wd (λao A outer s H E B hr=>qb
  (pS (pQ (wq (pU cH.G (hr.mono (by decide)) rfl cH.m cH.p cH.b (f' (en 0) (f' (en 1) ki rfl) rfl))))
  (pS (pQ (wq (pU cH.G (hr.mono (by decide)) rfl cH.m cH.p cH.b (f' (en 0) (f' (en 2) ki rfl) rfl))))
  (pP (pQ (Db (t3 (ua eu.G (hr.mono (by decide)) rfl eu.m eu.p eu.b (tH (en 0) rp (en 1) (en 2) ki rfl rfl rfl rfl))) (pW (pU eu.G (hr.mono (by decide)) rfl eu.m eu.p eu.b (tH (en 0) rp (en 1) (en 2) ki rfl rfl rfl rfl)))))))))
theorem EF:FnScope ["web", "came", "house", "other", "neighbour", "way"] ["web", "came", "house", "other"] (defScope vV):=⟨rfl,rfl,rfl,by decide +kernel,rfl,by decide +kernel,by decide +kernel⟩
theorem J2 {g:List R->Option (R×List R)}{kk:Nat} (hk:4<=kk){f:Addr}{fd:FuncData} (F:Fun K "way_on" "way_on" vV f fd) (G:FnOk P w K mg base CX0 kk f fd ["web", "came", "house", "other"] (spD K g)) {cP' cu'} (eS:Bi P w K mg base cP' cu') (gy:Binds K fd ["web", "came", "house", "other"] []) (gz:PySem.W.keepIn K (.ref f)=true) (gA:mg "way_on"=some (.ref f)):FnOk P w K mg base CX0 (kk+1) f fd ["web", "came", "house", "other"] (spD K (fnD 6 4 (vC g))) :=
 qc (N:=["web", "came", "house", "other", "neighbour", "way"]) F EF (vC g) (λao A outer s H E B hr=>qb
  (pS (qg (qJ hr (en 2) (en 3))
  (pP (pQ (t3 (rq (f' (en 2) ki rfl))))) qk)
  (pS (rQ never rfl (qv (pX (ua eS.G (hr.mono (le_trans (by decide) hk)) rfl eS.m eS.p eS.b (f' (en 0) (f' (en 2) ki rfl) rfl)))) (gd_n (i:=4) (m:=100) nk)
  (pP (qg (rb hr (en 4) (en 1))
  (pS (pZ (i:=5) nk (sM (pX (ua G hr rfl gA gz gy (tH (en 0) (en 2) (en 4) (en 3) ki rfl rfl rfl rfl))) (pU G hr rfl gA gz gy (tH (en 0) (en 2) (en 4) (en 3) ki rfl rfl rfl rfl))))
  (pP (qg (vS (en 5) rp)
  (pP (pQ (t3 (As (pX (rq (f' (en 2) ki rfl))) (en 5))))) qk))) qk)))
  (pP (pQ (pW rp))))))
theorem BM {f:Addr}{fd:FuncData} (F:Fun K "way_on" "way_on" vV f fd) {cP' cu'} (eS:Bi P w K mg base cP' cu') (gy:Binds K fd ["web", "came", "house", "other"] []) (gz:PySem.W.keepIn K (.ref f)=true) (gA:mg "way_on"=some (.ref f)):∀ n:Nat,FnOk P w K mg base CX0 (5+n) f fd ["web", "came", "house", "other"] (spD K (rS n))
 | 0=>vU
 | n+1=>J2 (le_trans (by decide) (Nat.le_add_right _ n)) F (BM F eS gy gz gA n) eS gy gz gA
theorem KZ:FnScope ["letter"] ["letter"] (defScope xh):=⟨rfl,rfl,rfl,by decide +kernel,rfl,by decide +kernel,by decide +kernel⟩
theorem K6 {f:Addr}{fd:FuncData} (F:Fun K "show_letter" "show_letter" xh f fd) (bI:mg "str"=none):FnOk P w K mg base CX0 2 f fd ["letter"] (spD K sR) :=
 qc (k:=1) (N:=["letter"]) F KZ xL (λao A outer s H E B hr=>qb
  (pP (pQ (pW (uk (f' (pX (qt (N':=["number", "-letter"]) (m:=1) (CompScope.of (by kernel_rfl)) rfl (qv (en 0)) (λ_ _ _ _=>(gd_n (i:=0) (m:=1) nk)) (λ_ _ _ _=>qp) (λ_ _ _ _=>(xW rfl bI (f' (en 0) ki rfl))))) ki rfl))))))
theorem Ji:FnScope ["wish"] ["wish"] (defScope ww):=⟨rfl,rfl,rfl,by decide +kernel,rfl,by decide +kernel,by decide +kernel⟩
theorem Jx {f:Addr}{fd:FuncData} (F:Fun K "show_wish" "show_wish" ww f fd) {e4' en'} (dL:Ad P w K mg base e4' en'):FnOk P w K mg base CX0 3 f fd ["wish"] (spD K sY) :=
 qc (k:=2) (N:=["wish"]) F Ji xa (λao A outer s H E B hr=>qb
  (pP (pQ (pW (uk (f' (pX (qt (N':=["pair", "-wish"]) (m:=1) (CompScope.of (by kernel_rfl)) rfl (qv (en 0)) (λ_ _ _ _=>(gd_n (i:=0) (m:=1) nk)) (λ_ _ _ _=>qp) (λ_ _ _ _=>(pU dL.G (hr.mono (by decide)) rfl dL.m dL.p dL.b (f' (en 0) ki rfl))))) ki rfl))))))
theorem Eg:FnScope ["web"] ["web"] (defScope xV):=⟨rfl,rfl,rfl,by decide +kernel,rfl,by decide +kernel,by decide +kernel⟩
theorem JK {f:Addr}{fd:FuncData} (F:Fun K "show_web" "show_web" xV f fd) {e4' en'} (dL:Ad P w K mg base e4' en') (bI:mg "str"=none):FnOk P w K mg base CX0 3 f fd ["web"] (spD K sQ) :=
 qc (k:=2) (N:=["web"]) F Eg xA (λao A outer s H E B hr=>qb
  (pP (pQ (pW (uk (f' (pX (As (pX (rq (f' (xW rfl bI (f' (qf (en 0) pN) ki rfl)) ki rfl))) (pX (qt (N':=["road", "-web"]) (m:=1) (CompScope.of (by kernel_rfl)) rfl (qv (qf (en 0) pN)) (λ_ _ _ _=>(gd_n (i:=0) (m:=1) nk)) (λ_ _ _ _=>qp) (λ_ _ _ _=>(pU dL.G (hr.mono (by decide)) rfl dL.m dL.p dL.b (f' (en 0) ki rfl))))))) ki rfl))))))
theorem Jn:FnScope ["pair"] ["pair"] (defScope xm):=⟨rfl,rfl,rfl,by decide +kernel,rfl,by decide +kernel,by decide +kernel⟩
theorem DM {f:Addr}{fd:FuncData} (F:Fun K "show_pair" "show_pair" xm f fd) (bI:mg "str"=none):FnOk P w K mg base CX0 2 f fd ["pair"] (spD K ub) :=
 qc (k:=1) (N:=["pair"]) F Jn yX (λao A outer s H E B hr=>qb
  (pP (pQ (pW (uk (f' (pX (qt (N':=["number", "-pair"]) (m:=1) (CompScope.of (by kernel_rfl)) rfl (qv (en 0)) (λ_ _ _ _=>(gd_n (i:=0) (m:=1) nk)) (λ_ _ _ _=>qp) (λ_ _ _ _=>(xW rfl bI (f' (en 0) ki rfl))))) ki rfl))))))
theorem zQ:FnScope ["text", "letter"] ["text"] (defScope uK):=⟨rfl,rfl,rfl,by decide +kernel,rfl,by decide +kernel,by decide +kernel⟩
theorem Hy {f:Addr}{fd:FuncData} (F:Fun K "read_letter" "read_letter" uK f fd) {aN' aJ'} (aO:sU P w K mg base aN' aJ') {ch' bY'} (cq:wW P w K mg base ch' bY') {fx_read_number fdx_read_number} (aD:sF P w K mg base cl fx_read_number fdx_read_number) (aj:mg "NoText"=some (.ref (cl 0))) (ak:xcIn K (cl 0)=true) (ae:mg "tuple"=none):FnOk P w K mg base CX0 5 f fd ["text"] (spD K vn) :=
 qc (k:=4) (N:=["text", "letter"]) F zQ yl (λao A outer s H E B hr=>qb
  (pS (pZ (i:=1) nk (rf rfl ae (f' (pX (qt (N':=["word", "-text", "-letter"]) (m:=1) (CompScope.of (by kernel_rfl)) rfl (qv (pX (rc (en 0) (f' qx ki rfl)))) (λ_ _ _ _=>(gd_n (i:=0) (m:=1) nk)) (λ_ _ _ _=>qp) (λ_ _ _ _=>(pU aO.G (hr.mono (by decide)) rfl aO.m aO.p aO.b (f' (en 0) ki rfl))))) ki rfl)))
  (pS (qg (qC (qF (pU cq.G (hr.mono (by decide)) rfl cq.m cq.p cq.b (f' (en 1) ki rfl))))
  (pP (pQ r9)) qk)
  (pP (pQ (pW (en 1)))))))
theorem Ho {f:Addr}{fd:FuncData} (F:Fun K "read_letter" "read_letter" uK f fd) {aN' aJ'} (aO:sU P w K mg base aN' aJ') {ch' bY'} (cq:wW P w K mg base ch' bY') {fx_read_number fdx_read_number} (aD:sF P w K mg base cl fx_read_number fdx_read_number) (aj:mg "NoText"=some (.ref (cl 0))) (ak:xcIn K (cl 0)=true) (ae:mg "tuple"=none):FnOk P w K mg base (CXX P w) 5 f fd ["text"] (spE K cl vj) :=
 tE (k:=4) (N:=["text", "letter"]) F zQ vL (λao A outer s H E B hr=>sB
  (vk (pZ (i:=1) nk (rf rfl ae (f' (pX (qt (N':=["word", "-text", "-letter"]) (m:=1) (CompScope.of (by kernel_rfl)) rfl (qv (pX (rc (en 0) (f' qx ki rfl)))) (λ_ _ _ _=>(gd_n (i:=0) (m:=1) nk)) (λ_ _ _ _=>qp) (λ_ _ _ _=>(pU aO.G (hr.mono (by decide)) rfl aO.m aO.p aO.b (f' (en 0) ki rfl))))) ki rfl))) (qQ (sW (i:=1) nk (vR rfl ae rfl (tF (v4 (N':=["word", "-text", "-letter"]) (m:=1) (CompScope.of (by kernel_rfl)) rfl rfl rfl (qv (pX (rc (en 0) (f' qx ki rfl)))) (λ_ _ _ _=>(gd_n (i:=0) (m:=1) nk)) (λ_ _ _ _=>qp) (λ_ _ _ _ _=>(pU aO.G (hr.mono (by decide)) rfl aO.m aO.p aO.b (f' (en 0) ki rfl))) (λ_ _ _ _ _=>(cqX aD hr (f' (en 0) ki rfl)))) rfl))))
  (uH (sv (qC (qF (pU cq.G (hr.mono (by decide)) rfl cq.m cq.p cq.b (f' (en 1) ki rfl))))
  (qW (qQ (tV rfl rfl aj ak (f' qx ki rfl)))) uv))))
theorem A7:FnScope ["text", "wish"] ["text"] (defScope vP):=⟨rfl,rfl,rfl,by decide +kernel,rfl,by decide +kernel,by decide +kernel⟩
theorem G8 {f:Addr}{fd:FuncData} (F:Fun K "read_wish" "read_wish" vP f fd) {bC' bv'} (aY:u6 P w K mg base bC' bv') {dA' cQ'} (cu:wM P w K mg base dA' cQ') {fx_read_pair fdx_read_pair} (aX:vQ P w K mg base cl fx_read_pair fdx_read_pair) (aj:mg "NoText"=some (.ref (cl 0))) (ak:xcIn K (cl 0)=true) (ae:mg "tuple"=none):FnOk P w K mg base CX0 6 f fd ["text"] (spD K u3) :=
 qc (k:=5) (N:=["text", "wish"]) F A7 xB (λao A outer s H E B hr=>qb
  (pS (pZ (i:=1) nk (rf rfl ae (f' (pX (qt (N':=["word", "-text", "-wish"]) (m:=1) (CompScope.of (by kernel_rfl)) rfl (qv (pX (rc (en 0) (f' qx ki rfl)))) (λ_ _ _ _=>(gd_n (i:=0) (m:=1) nk)) (λ_ _ _ _=>qp) (λ_ _ _ _=>(pU aY.G (hr.mono (by decide)) rfl aY.m aY.p aY.b (f' (en 0) ki rfl))))) ki rfl)))
  (pS (qg (qC (qF (pU cu.G (hr.mono (by decide)) rfl cu.m cu.p cu.b (f' (en 1) ki rfl))))
  (pP (pQ r9)) qk)
  (pP (pQ (pW (en 1)))))))
theorem HH {f:Addr}{fd:FuncData} (F:Fun K "read_wish" "read_wish" vP f fd) {bC' bv'} (aY:u6 P w K mg base bC' bv') {dA' cQ'} (cu:wM P w K mg base dA' cQ') {fx_read_pair fdx_read_pair} (aX:vQ P w K mg base cl fx_read_pair fdx_read_pair) (aj:mg "NoText"=some (.ref (cl 0))) (ak:xcIn K (cl 0)=true) (ae:mg "tuple"=none):FnOk P w K mg base (CXX P w) 6 f fd ["text"] (spE K cl vI) :=
 tE (k:=5) (N:=["text", "wish"]) F A7 vO (λao A outer s H E B hr=>sB
  (vk (pZ (i:=1) nk (rf rfl ae (f' (pX (qt (N':=["word", "-text", "-wish"]) (m:=1) (CompScope.of (by kernel_rfl)) rfl (qv (pX (rc (en 0) (f' qx ki rfl)))) (λ_ _ _ _=>(gd_n (i:=0) (m:=1) nk)) (λ_ _ _ _=>qp) (λ_ _ _ _=>(pU aY.G (hr.mono (by decide)) rfl aY.m aY.p aY.b (f' (en 0) ki rfl))))) ki rfl))) (qQ (sW (i:=1) nk (vR rfl ae rfl (tF (v4 (N':=["word", "-text", "-wish"]) (m:=1) (CompScope.of (by kernel_rfl)) rfl rfl rfl (qv (pX (rc (en 0) (f' qx ki rfl)))) (λ_ _ _ _=>(gd_n (i:=0) (m:=1) nk)) (λ_ _ _ _=>qp) (λ_ _ _ _ _=>(pU aY.G (hr.mono (by decide)) rfl aY.m aY.p aY.b (f' (en 0) ki rfl))) (λ_ _ _ _ _=>(cqX aX hr (f' (en 0) ki rfl)))) rfl))))
  (uH (sv (qC (qF (pU cu.G (hr.mono (by decide)) rfl cu.m cu.p cu.b (f' (en 1) ki rfl))))
  (qW (qQ (tV rfl rfl aj ak (f' qx ki rfl)))) uv))))
theorem CS:FnScope ["text", "words", "web"] ["text"] (defScope uO):=⟨rfl,rfl,rfl,by decide +kernel,rfl,by decide +kernel,by decide +kernel⟩
theorem J9 {f:Addr}{fd:FuncData} (F:Fun K "read_web" "read_web" uO f fd) {aN' aJ'} (aO:sU P w K mg base aN' aJ') {bC' bv'} (aY:u6 P w K mg base bC' bv') {eo' dB'} (cw:yz P w K mg base eo' dB') {fx_read_pair fdx_read_pair} (aX:vQ P w K mg base cl fx_read_pair fdx_read_pair) {fx_read_number fdx_read_number} (aD:sF P w K mg base cl fx_read_number fdx_read_number) (aj:mg "NoText"=some (.ref (cl 0))) (ak:xcIn K (cl 0)=true) (ae:mg "tuple"=none):FnOk P w K mg base CX0 30 f fd ["text"] (spD K uz) :=
 qc (k:=29) (N:=["text", "words", "web"]) F CS ze (λao A outer s H E B hr=>qb
  (pS (pZ (i:=1) nk (pX (rc (en 0) (f' qx ki rfl))))
  (pS (pZ (i:=2) nk (qO (f' (pU aO.G (hr.mono (by decide)) rfl aO.m aO.p aO.b (f' (qf (en 1) pN) ki rfl)) (f' (rf rfl ae (f' (pX (qt (N':=["word", "-text", "-words", "-web"]) (m:=1) (CompScope.of (by kernel_rfl)) rfl (qv (qT (en 1) (qE pN) qI)) (λ_ _ _ _=>(gd_n (i:=0) (m:=1) nk)) (λ_ _ _ _=>qp) (λ_ _ _ _=>(pU aY.G (hr.mono (by decide)) rfl aY.m aY.p aY.b (f' (en 0) ki rfl))))) ki rfl)) ki rfl) rfl)))
  (pS (qg (qC (qF (pU cw.G (hr.mono (by decide)) rfl cw.m cw.p cw.b (f' (en 2) ki rfl))))
  (pP (pQ r9)) qk)
  (pP (pQ (pW (en 2))))))))
theorem FL {f:Addr}{fd:FuncData} (F:Fun K "read_web" "read_web" uO f fd) {aN' aJ'} (aO:sU P w K mg base aN' aJ') {bC' bv'} (aY:u6 P w K mg base bC' bv') {eo' dB'} (cw:yz P w K mg base eo' dB') {fx_read_pair fdx_read_pair} (aX:vQ P w K mg base cl fx_read_pair fdx_read_pair) {fx_read_number fdx_read_number} (aD:sF P w K mg base cl fx_read_number fdx_read_number) (aj:mg "NoText"=some (.ref (cl 0))) (ak:xcIn K (cl 0)=true) (ae:mg "tuple"=none):FnOk P w K mg base (CXX P w) 30 f fd ["text"] (spE K cl vG) :=
 tE (k:=29) (N:=["text", "words", "web"]) F CS uG (λao A outer s H E B hr=>sB
  (FN (pZ (i:=1) nk (pX (rc (en 0) (f' qx ki rfl))))
  (vk (pZ (i:=2) nk (qO (f' (pU aO.G (hr.mono (by decide)) rfl aO.m aO.p aO.b (f' (qf (en 1) pN) ki rfl)) (f' (rf rfl ae (f' (pX (qt (N':=["word", "-text", "-words", "-web"]) (m:=1) (CompScope.of (by kernel_rfl)) rfl (qv (qT (en 1) (qE pN) qI)) (λ_ _ _ _=>(gd_n (i:=0) (m:=1) nk)) (λ_ _ _ _=>qp) (λ_ _ _ _=>(pU aY.G (hr.mono (by decide)) rfl aY.m aY.p aY.b (f' (en 0) ki rfl))))) ki rfl)) ki rfl) rfl))) (qQ (sW (i:=2) nk (DE (HW (pU aO.G (hr.mono (by decide)) rfl aO.m aO.p aO.b (f' (qf (en 1) pN) ki rfl)) (cqX aD hr (f' (qf (en 1) pN) ki rfl)) (tF (vR rfl ae rfl (tF (v4 (N':=["word", "-text", "-words", "-web"]) (m:=1) (CompScope.of (by kernel_rfl)) rfl rfl rfl (qv (qT (en 1) (qE pN) qI)) (λ_ _ _ _=>(gd_n (i:=0) (m:=1) nk)) (λ_ _ _ _=>qp) (λ_ _ _ _ _=>(pU aY.G (hr.mono (by decide)) rfl aY.m aY.p aY.b (f' (en 0) ki rfl))) (λ_ _ _ _ _=>(cqX aX hr (f' (en 0) ki rfl)))) rfl)) rfl) rfl))))
  (uH (sv (qC (qF (pU cw.G (hr.mono (by decide)) rfl cw.m cw.p cw.b (f' (en 2) ki rfl))))
  (qW (qQ (tV rfl rfl aj ak (f' qx ki rfl)))) uv)))))
theorem zH:FnScope ["text"] ["text"] (defScope vN):=⟨rfl,rfl,rfl,by decide +kernel,rfl,by decide +kernel,by decide +kernel⟩
theorem Hq {f:Addr}{fd:FuncData} (F:Fun K "read_pair" "read_pair" vN f fd) {aN' aJ'} (aO:sU P w K mg base aN' aJ') {fx_read_number fdx_read_number} (aD:sF P w K mg base cl fx_read_number fdx_read_number) (ae:mg "tuple"=none):FnOk P w K mg base CX0 3 f fd ["text"] (spD K qG) :=
 qc (k:=2) (N:=["text"]) F zH xH (λao A outer s H E B hr=>qb
  (pP (pQ (pW (rf rfl ae (f' (pX (qt (N':=["word", "-text"]) (m:=1) (CompScope.of (by kernel_rfl)) rfl (qv (pX (rc (en 0) (f' qx ki rfl)))) (λ_ _ _ _=>(gd_n (i:=0) (m:=1) nk)) (λ_ _ _ _=>qp) (λ_ _ _ _=>(pU aO.G (hr.mono (by decide)) rfl aO.m aO.p aO.b (f' (en 0) ki rfl))))) ki rfl))))))
theorem Gh {f:Addr}{fd:FuncData} (F:Fun K "read_pair" "read_pair" vN f fd) {aN' aJ'} (aO:sU P w K mg base aN' aJ') {fx_read_number fdx_read_number} (aD:sF P w K mg base cl fx_read_number fdx_read_number) (ae:mg "tuple"=none):FnOk P w K mg base (CXX P w) 3 f fd ["text"] (spE K cl su) :=
 tE (k:=2) (N:=["text"]) F zH vx (λao A outer s H E B hr=>sB
  (qW (qQ (GV (vR rfl ae rfl (tF (v4 (N':=["word", "-text"]) (m:=1) (CompScope.of (by kernel_rfl)) rfl rfl rfl (qv (pX (rc (en 0) (f' qx ki rfl)))) (λ_ _ _ _=>(gd_n (i:=0) (m:=1) nk)) (λ_ _ _ _=>qp) (λ_ _ _ _ _=>(pU aO.G (hr.mono (by decide)) rfl aO.m aO.p aO.b (f' (en 0) ki rfl))) (λ_ _ _ _ _=>(cqX aD hr (f' (en 0) ki rfl)))) rfl))))))
theorem Cj:FnScope ["text"] ["text"] (defScope vi):=⟨rfl,rfl,rfl,by decide +kernel,rfl,by decide +kernel,by decide +kernel⟩
theorem JO {f:Addr}{fd:FuncData} (F:Fun K "read_number" "read_number" vi f fd) (aj:mg "NoText"=some (.ref (cl 0))) (ak:xcIn K (cl 0)=true) (b9:mg "any"=none) (aC:mg "len"=none) (bR:mg "int"=none){br:Tok} (aU:mg "FIGURES"=some (.str "0123456789" br)){aN:Tok} (aF:mg "MOST_FIGURES"=some (.int 4 aN)):FnOk P w K mg base CX0 2 f fd ["text"] (spD K qA) :=
 qc (k:=1) (N:=["text"]) F Cj AQ (λao A outer s H E B hr=>qb
  (pS (qg (TW.td (rB (qC (uy pN (xM rfl aC (f' (en 0) ki rfl)) (ed_c (v:=.int 4) (qZ rfl aF ⟨_,rfl⟩) (λ_=>Is.int _)))) (rP (qF (wF rfl rfl b9 (f' (pX (qt (N':=["sign", "-text"]) (m:=1) (CompScope.of (by kernel_rfl)) rfl (yc (en 0)) (λ_ _ _ _=>(gd_n (i:=0) (m:=1) nk)) (λ_ _ _ _=>qp) (λ_ _ _ _=>(xb (en 0) (ed_c (v:=.str "0123456789") (qZ rfl aU ⟨_,rfl⟩) (λ_=>Is.str _)))))) ki rfl))))))
  (pP (pQ r9)) qk)
  (pS (qg (TW.td (uZ (qJ hr (x0 (en 0) pN) qx) (vv (rb hr (en 0) qx))))
  (pP (pQ r9)) qk)
  (pP (pQ (pW (Jt rfl bR (f' (en 0) ki rfl))))))))
theorem IY {f:Addr}{fd:FuncData} (F:Fun K "read_number" "read_number" vi f fd) (aj:mg "NoText"=some (.ref (cl 0))) (ak:xcIn K (cl 0)=true) (b9:mg "any"=none) (aC:mg "len"=none) (bR:mg "int"=none){br:Tok} (aU:mg "FIGURES"=some (.str "0123456789" br)){aN:Tok} (aF:mg "MOST_FIGURES"=some (.int 4 aN)):FnOk P w K mg base (CXX P w) 2 f fd ["text"] (spE K cl rE) :=
 tE (k:=1) (N:=["text"]) F Cj A6 (λao A outer s H E B hr=>sB
  (vk (qg (TW.td (rB (qC (uy pN (xM rfl aC (f' (en 0) ki rfl)) (ed_c (v:=.int 4) (qZ rfl aF ⟨_,rfl⟩) (λ_=>Is.int _)))) (rP (qF (wF rfl rfl b9 (f' (pX (qt (N':=["sign", "-text"]) (m:=1) (CompScope.of (by kernel_rfl)) rfl (yc (en 0)) (λ_ _ _ _=>(gd_n (i:=0) (m:=1) nk)) (λ_ _ _ _=>qp) (λ_ _ _ _=>(xb (en 0) (ed_c (v:=.str "0123456789") (qZ rfl aU ⟨_,rfl⟩) (λ_=>Is.str _)))))) ki rfl))))))
  (pP (pQ r9)) qk) (sv (TW.td (rB (qC (uy pN (xM rfl aC (f' (en 0) ki rfl)) (ed_c (v:=.int 4) (qZ rfl aF ⟨_,rfl⟩) (λ_=>Is.int _)))) (rP (qF (wF rfl rfl b9 (f' (pX (qt (N':=["sign", "-text"]) (m:=1) (CompScope.of (by kernel_rfl)) rfl (yc (en 0)) (λ_ _ _ _=>(gd_n (i:=0) (m:=1) nk)) (λ_ _ _ _=>qp) (λ_ _ _ _=>(xb (en 0) (ed_c (v:=.str "0123456789") (qZ rfl aU ⟨_,rfl⟩) (λ_=>Is.str _)))))) ki rfl))))))
  (qW (qQ (tV rfl rfl aj ak (f' qx ki rfl)))) uv)
  (uH (sv (TW.td (uZ (qJ hr (x0 (en 0) pN) qx) (vv (rb hr (en 0) qx))))
  (qW (qQ (tV rfl rfl aj ak (f' qx ki rfl)))) uv))))
theorem HI:FnScope ["cell", "at", "one", "two", "three"] ["cell", "at"] (defScope v8):=⟨rfl,rfl,rfl,by decide +kernel,rfl,by decide +kernel,by decide +kernel⟩
theorem EQ {f:Addr}{fd:FuncData} (F:Fun K "_law_blend" "_law_blend" v8 f fd) :FnOk P w K mg base CX0 2 f fd ["cell", "at"] (spD K ut) :=
 qc (k:=1) (N:=["cell", "at", "one", "two", "three"]) F HI xy (λao A outer s H E B hr=>qb
  (pS (qg (Cq (en 0) (AG pN pN))
  (pP (pQ (pW (en 0)))) qk)
  (pS (pZ (i:=2) nk (rj (qm (qm (qU (rj (en 0) pN) pN) (qU (en 1) pN)) pN) pN))
  (pS (pZ (i:=3) nk (rj (qm (qm (qU (en 2) (en 2)) (qU (en 1) pN)) (rj (en 0) pN)) pN))
  (pS (pZ (i:=4) nk (rj (qm (qm (qU (en 3) (en 3)) (qU (en 2) pN)) pN) pN))
  (pP (pQ (pW (qm (qU (qm (qU (en 2) pN) (en 3)) pN) (en 4))))))))))
theorem Ij:FnScope ["script", "cells", "k", "cell"] ["script"] (defScope yo):=⟨rfl,rfl,rfl,by decide +kernel,rfl,by decide +kernel,by decide +kernel⟩
theorem Ke {f:Addr}{fd:FuncData} (F:Fun K "_law_pot" "_law_pot" yo f fd) (bS:mg "list"=none) (aG:mg "enumerate"=none):FnOk P w K mg base CX0 2 f fd ["script"] (spD K tx) :=
 qc (k:=1) (N:=["script", "cells", "k", "cell"]) F Ij yW (λao A outer s H E B hr=>qb
  (pS (pQ (vM (i:=1) nk (BZ rfl bS (f' (qT (en 0) qI (qE pN)) ki rfl))))
  (pS (rQ never rfl (yH rfl aG (f' (qT (en 0) (qE pN) (qE pN)) ki rfl)) (uV (m:=100) rfl (rU (gd_n (i:=2) (m:=100) nk) (rU (gd_n (i:=3) (m:=100) nk) uD)))
  (pP (pQ (vJ (pv 1) (rj (en 2) pN) (qm (ra (pv 1) (rj (en 2) pN)) (en 3))))))
  (pP (pQ (t3 (rq (f' (en 1) (f' pN (f' pN ki rfl) rfl) rfl))))))))
theorem DN:FnScope ["pot", "many", "at", "cell", "found"] ["pot", "many"] (defScope yN):=⟨rfl,rfl,rfl,by decide +kernel,rfl,by decide +kernel,by decide +kernel⟩
theorem HF {f:Addr}{fd:FuncData} (F:Fun K "_law_pick" "_law_pick" yN f fd) {me' lB'} (g8:De P w K mg base me' lB') (aC:mg "len"=none):FnOk P w K mg base CX0 3 f fd ["pot", "many"] (spD K qB) :=
 qc (k:=2) (N:=["pot", "many", "at", "cell", "found"]) F DN wT (λao A outer s H E B hr=>qb
  (pS (qg (wY (ra (pv 0) pN) (en 1))
  (pS (pZ (i:=2) nk (ra (pv 0) pN))
  (pS (pZ (i:=3) nk (qU pN (en 2)))
  (pS (qg (wY (en 2) (rM rfl aC (f' (ra (pv 0) pN) ki rfl)))
  (pP (pZ (i:=3) nk (qf (ra (pv 0) pN) (en 2)))) (pP (qg (rb hr (ra (pv 0) pN) (pX (rq ki)))
  (pP (pZ (i:=3) nk (rj (qf (ra (pv 0) pN) (rj (qm (qU (en 2) pN) pN) (rM rfl aC (f' (ra (pv 0) pN) ki rfl)))) (qm (AG pN pN) (qU pN (en 2)))))) qk)))
  (pS (pQ (vJ (pv 0) pN (qm (en 2) pN)))
  (pP (pQ (vJ (pv 0) pN (pU g8.G (hr.mono (by decide)) rfl g8.m g8.p g8.b (f' (en 3) (f' (en 2) ki rfl) rfl))))))))) qk)
  (pS (pZ (i:=4) nk (rj (ra (pv 0) pN) (en 1)))
  (pS (pQ (vJ (pv 0) pN (Hd (ra (pv 0) pN) (en 1))))
  (pP (pQ (pW (en 4))))))))
theorem K0:FnScope ["pot", "many", "order", "k"] ["pot", "many"] (defScope xO):=⟨rfl,rfl,rfl,by decide +kernel,rfl,by decide +kernel,by decide +kernel⟩
theorem KY {f:Addr}{fd:FuncData} (F:Fun K "_law_order" "_law_order" xO f fd) {bc' a2'} (aB:sP P w K mg base bc' a2') (aE:mg "range"=none):FnOk P w K mg base CX0 4 f fd ["pot", "many"] (spD K u9) :=
 qc (k:=3) (N:=["pot", "many", "order", "k"]) F K0 yb (λao A outer s H E B hr=>qb
  (pS (pQ (vM (i:=2) nk (rq ki)))
  (pS (rQ never rfl (sO rfl aE (f' (en 1) ki rfl)) (gd_n (i:=3) (m:=100) nk)
  (pP (pQ (J3 (pv 2) (f' (qq aB.G (hr.mono (by decide)) rfl aB.m aB.p aB.b (pv 0) (f' (qm (en 3) pN) ki rfl)) (f' (en 3) ki rfl) rfl)))))
  (pP (pQ (pW (en 2)))))))
theorem Eb:FnScope ["pot", "most", "often", "many", "order", "roads", "k", "pair"] ["pot", "most"] (defScope yL):=⟨rfl,rfl,rfl,by decide +kernel,rfl,by decide +kernel,by decide +kernel⟩
theorem Dl {f:Addr}{fd:FuncData} (F:Fun K "_law_web" "_law_web" yL f fd) {bc' a2'} (aB:sP P w K mg base bc' a2') {mf' lC'} (g9:Dv P w K mg base mf' lC') (aE:mg "range"=none) (cJ:mg "min"=none) (eT:mg "max"=none) (aS:mg "sorted"=none) (ae:mg "tuple"=none):FnOk P w K mg base CX0 5 f fd ["pot", "most"] (spD K vF) :=
 qc (k:=4) (N:=["pot", "most", "often", "many", "order", "roads", "k", "pair"]) F Eb wO (λao A outer s H E B hr=>qb
  (pS (pZ (i:=2) nk (qq aB.G (hr.mono (by decide)) rfl aB.m aB.p aB.b (pv 0) (f' pN ki rfl)))
  (pS (pZ (i:=3) nk (qm pN (qq aB.G (hr.mono (by decide)) rfl aB.m aB.p aB.b (pv 0) (f' (en 1) ki rfl))))
  (pS (pZ (i:=4) nk (qq g9.G (hr.mono (by decide)) rfl g9.m g9.p g9.b (pv 0) (f' (en 3) ki rfl)))
  (pS (pQ (vM (i:=5) nk (rq ki)))
  (pS (rQ never rfl (Fc rfl aE (f' pN (f' (en 3) ki rfl) rfl)) (gd_n (i:=6) (m:=100) nk)
  (pP (qg (Cq (qq aB.G (hr.mono (by decide)) rfl aB.m aB.p aB.b (pv 0) (f' pN ki rfl)) (en 2))
  (pS (pZ (i:=7) nk (qO (f' (qf (en 4) (en 6)) (f' (qf (en 4) (qq aB.G (hr.mono (by decide)) rfl aB.m aB.p aB.b (pv 0) (f' (en 6) ki rfl))) ki rfl) rfl)))
  (pP (pQ (GC (pv 5) (qO (f' (Jz rfl rfl cJ (f' (en 7) ki rfl)) (f' (DF rfl rfl eT (f' (en 7) ki rfl)) ki rfl) rfl)))))) qk)))
  (pP (pQ (pW (qO (f' (en 3) (f' (rf rfl ae (f' (pX (AH hr rfl aS (f' (en 5) ki rfl))) ki rfl)) ki rfl) rfl)))))))))))
theorem FB:FnScope ["pot", "top", "way", "low", "more"] ["pot", "top"] (defScope yk):=⟨rfl,rfl,rfl,by decide +kernel,rfl,by decide +kernel,by decide +kernel⟩
theorem GM {f:Addr}{fd:FuncData} (F:Fun K "_law_pair" "_law_pair" yk f fd) {bc' a2'} (aB:sP P w K mg base bc' a2') (cJ:mg "min"=none):FnOk P w K mg base CX0 4 f fd ["pot", "top"] (spD K uS) :=
 qc (k:=3) (N:=["pot", "top", "way", "low", "more"]) F FB wz (λao A outer s H E B hr=>qb
  (pS (pZ (i:=2) nk (qq aB.G (hr.mono (by decide)) rfl aB.m aB.p aB.b (pv 0) (f' pN ki rfl)))
  (pS (pZ (i:=3) nk (qq aB.G (hr.mono (by decide)) rfl aB.m aB.p aB.b (pv 0) (f' (en 1) ki rfl)))
  (pS (pZ (i:=4) nk (qq aB.G (hr.mono (by decide)) rfl aB.m aB.p aB.b (pv 0) (f' (uC (en 1) (en 3)) ki rfl)))
  (pP (pQ (pW (qf (pX (rq (tH (qO (f' pN (f' (uC (en 1) pN) ki rfl) rfl)) (qO (f' (en 3) (f' (en 3) ki rfl) rfl)) (qO (f' (en 3) (f' (qm (en 3) (en 4)) ki rfl) rfl)) (qO (f' (en 3) (f' (E8 rfl rfl cJ (f' (uC (en 1) pN) (f' (qm (en 3) pN) ki rfl) rfl)) ki rfl) rfl)) ki rfl rfl rfl rfl))) (en 2)))))))))
theorem IN:FnScope ["pot", "fields", "top"] ["pot", "fields", "top"] (defScope yP):=⟨rfl,rfl,rfl,by decide +kernel,rfl,by decide +kernel,by decide +kernel⟩
theorem Hl {f:Addr}{fd:FuncData} (F:Fun K "_law_wish" "_law_wish" yP f fd) {nZ' mg'} (hG:K9 P w K mg base nZ' mg') (aE:mg "range"=none) (ae:mg "tuple"=none):FnOk P w K mg base CX0 5 f fd ["pot", "fields", "top"] (spD K tG) :=
 qc (k:=4) (N:=["pot", "fields", "top"]) F IN wC (λao A outer s H E B hr=>qb
  (pP (pQ (pW (rf rfl ae (f' (pX (qt (N':=["k", "pot", "-fields", "top"]) (m:=1) (CompScope.of (by kernel_rfl)) rfl (sO rfl aE (f' (en 1) ki rfl)) (λ_ _ _ _=>(gd_n (i:=0) (m:=1) nk)) (λ_ _ _ _=>qp) (λ_ _ _ _=>(qq hG.G (hr.mono (by decide)) rfl hG.m hG.p hG.b (pv 1) (f' (en 3) ki rfl))))) ki rfl))))))
theorem Df:FnScope ["pot", "fields"] ["pot", "fields"] (defScope yZ):=⟨rfl,rfl,rfl,by decide +kernel,rfl,by decide +kernel,by decide +kernel⟩
theorem Gb {f:Addr}{fd:FuncData} (F:Fun K "_law_letter" "_law_letter" yZ f fd) {bc' a2'} (aB:sP P w K mg base bc' a2') (aE:mg "range"=none) (ae:mg "tuple"=none):FnOk P w K mg base CX0 4 f fd ["pot", "fields"] (spD K ux) :=
 qc (k:=3) (N:=["pot", "fields"]) F Df wn (λao A outer s H E B hr=>qb
  (pP (pQ (pW (rf rfl ae (f' (pX (qt (N':=["k", "pot", "-fields"]) (m:=1) (CompScope.of (by kernel_rfl)) rfl (sO rfl aE (f' (en 1) ki rfl)) (λ_ _ _ _=>(gd_n (i:=0) (m:=1) nk)) (λ_ _ _ _=>qp) (λ_ _ _ _=>(qq aB.G (hr.mono (by decide)) rfl aB.m aB.p aB.b (pv 1) (f' pN ki rfl))))) ki rfl))))))
theorem IB:FnScope ["way", "text", "found"] ["way", "text"] (defScope yi):=⟨rfl,rfl,rfl,by decide +kernel,rfl,by decide +kernel,by decide +kernel⟩
theorem IA {f:Addr}{fd:FuncData} (F:Fun K "_law_read" "_law_read" yi f fd) {jQ' i2'} (hU:K8 P w K mg base jQ' i2') {mh' lD'} (hV:DX P w K mg base mh' lD') {n0' mi'} (hW:FU P w K mg base n0' mi') {fx_read_letter fdx_read_letter} (de:Jl P w K mg base cl fx_read_letter fdx_read_letter) {fx_read_wish fdx_read_wish} (dM:GL P w K mg base cl fx_read_wish fdx_read_wish) {fx_read_web fdx_read_web} (ey:Dw P w K mg base cl fx_read_web fdx_read_web) (aj:mg "NoText"=some (.ref (cl 0))) (ak:xcIn K (cl 0)=true):FnOk P w K mg base CX0 31 f fd ["way", "text"] (spD K qN) :=
 qc (k:=30) (N:=["way", "text", "found"]) F IB tM (λao A outer s H E B hr=>qb
  (pS (pZ (i:=2) nk rp)
  (pS (pQ (Jw (i:=2) nk rfl rfl aj ak (λ_ _=>qb (pP (qg (qJ hr (en 0) pN)
  (pP (pZ (i:=2) nk (pU hU.G (hr.mono (by decide)) rfl hU.m hU.p hU.b (f' (en 1) ki rfl)))) (pP (qg (qJ hr (en 0) pN)
  (pP (pZ (i:=2) nk (pU hV.G (hr.mono (by decide)) rfl hV.m hV.p hV.b (f' (en 1) ki rfl)))) (pP (pZ (i:=2) nk (pU hW.G (hr.mono (by decide)) rfl hW.m hW.p hW.b (f' (en 1) ki rfl))))))))) (λ_ _=>sB (qW (sv (qJ hr (en 0) pN)
  (qW (qQ (sW (i:=2) nk (cqX de hr (f' (en 1) ki rfl))))) (qW (sv (qJ hr (en 0) pN)
  (qW (qQ (sW (i:=2) nk (cqX dM hr (f' (en 1) ki rfl))))) (qW (qQ (sW (i:=2) nk (cqX ey hr (f' (en 1) ki rfl))))))))))))
  (pP (pQ (pW (en 2)))))))
theorem K7:FnScope ["way", "thing"] ["way", "thing"] (defScope xg):=⟨rfl,rfl,rfl,by decide +kernel,rfl,by decide +kernel,by decide +kernel⟩
theorem G1 {f:Addr}{fd:FuncData} (F:Fun K "_law_shown" "_law_shown" xg f fd) {jR' i3'} (hX:Jk P w K mg base jR' i3') {mj' lE'} (hZ:GN P w K mg base mj' lE') {n1' ml'} (ic:Ds P w K mg base n1' ml'):FnOk P w K mg base CX0 4 f fd ["way", "thing"] (spD K qS) :=
 qc (k:=3) (N:=["way", "thing"]) F K7 uf (λao A outer s H E B hr=>qb
  (pS (qg (qJ hr (en 0) pN)
  (pP (pQ (pW (pU hX.G (hr.mono (by decide)) rfl hX.m hX.p hX.b (f' (en 1) ki rfl))))) qk)
  (pP (pQ (pW (vz (qJ hr (en 0) pN) (pU hZ.G (hr.mono (by decide)) rfl hZ.m hZ.p hZ.b (f' (en 1) ki rfl)) (pU ic.G (hr.mono (by decide)) rfl ic.m ic.p ic.b (f' (en 1) ki rfl))))))))
theorem Gn:FnScope ["way", "thing"] ["way", "thing"] (defScope xw):=⟨rfl,rfl,rfl,by decide +kernel,rfl,by decide +kernel,by decide +kernel⟩
theorem Ix {f:Addr}{fd:FuncData} (F:Fun K "_law_is_it" "_law_is_it" xw f fd) {ch' bY'} (cq:wW P w K mg base ch' bY') {dA' cQ'} (cu:wM P w K mg base dA' cQ') {eo' dB'} (cw:yz P w K mg base eo' dB'):FnOk P w K mg base CX0 30 f fd ["way", "thing"] (spD K rY) :=
 qc (k:=29) (N:=["way", "thing"]) F Gn ul (λao A outer s H E B hr=>qb
  (pS (qg (qJ hr (en 0) pN)
  (pP (pQ (pW (pU cq.G (hr.mono (by decide)) rfl cq.m cq.p cq.b (f' (en 1) ki rfl))))) qk)
  (pP (pQ (pW (vz (qJ hr (en 0) pN) (pU cu.G (hr.mono (by decide)) rfl cu.m cu.p cu.b (f' (en 1) ki rfl)) (pU cw.G (hr.mono (by decide)) rfl cw.m cw.p cw.b (f' (en 1) ki rfl))))))))
theorem EN:FnScope ["pot", "way", "thing", "many", "roads", "at", "fresh"] ["pot", "way", "thing"] (defScope y8):=⟨rfl,rfl,rfl,by decide +kernel,rfl,by decide +kernel,by decide +kernel⟩
theorem Gv {f:Addr}{fd:FuncData} (F:Fun K "_law_other" "_law_other" y8 f fd) {bc' a2'} (aB:sP P w K mg base bc' a2') {er' dJ'} (dN:BV P w K mg base er' dJ') {fU' e5'} (dO:A2 P w K mg base fU' e5') (aC:mg "len"=none):FnOk P w K mg base CX0 6 f fd ["pot", "way", "thing"] (spD K vc) :=
 qc (k:=5) (N:=["pot", "way", "thing", "many", "roads", "at", "fresh"]) F EN tW (λao A outer s H E B hr=>qb
  (pS (qg (qJ hr (en 1) pN)
  (pS (pQ (Ex (en 2) (uV (m:=100) rfl (rU (gd_n (i:=3) (m:=100) nk) (rU (gd_n (i:=4) (m:=100) nk) uD)))))
  (pS (pZ (i:=5) nk (qq aB.G (hr.mono (by decide)) rfl aB.m aB.p aB.b (pv 0) (f' (qm (rM rfl aC (f' (en 4) ki rfl)) pN) ki rfl)))
  (pP (pQ (pW (qO (f' (en 3) (f' (qm (sM (qT (en 4) qI (qE (en 5))) (vK (en 4) qI (qE (en 5)))) (sM (qT (en 4) (qE (qm (en 5) pN)) qI) (vK (en 4) (qE (qm (en 5) pN)) qI))) ki rfl) rfl))))))) qk)
  (pS (pZ (i:=5) nk (qq aB.G (hr.mono (by decide)) rfl aB.m aB.p aB.b (pv 0) (f' (rM rfl aC (f' (en 2) ki rfl)) ki rfl)))
  (pS (pZ (i:=6) nk (vz (qJ hr (en 1) pN) (qq dN.G (hr.mono (by decide)) rfl dN.m dN.p dN.b (pv 0) (f' pN ki rfl)) (qq dO.G (hr.mono (by decide)) rfl dO.m dO.p dO.b (pv 0) (f' pN (f' pN ki rfl) rfl))))
  (pP (pQ (pW (qm (qm (sM (qT (en 2) qI (qE (en 5))) (vK (en 2) qI (qE (en 5)))) (en 6)) (sM (qT (en 2) (qE (qm (en 5) pN)) qI) (vK (en 2) (qE (qm (en 5) pN)) qI))))))))))
theorem GO:FnScope ["script", "pot", "turn", "fields", "things", "way", "thing", "text", "other", "found"] ["script"] (defScope wA):=⟨rfl,rfl,rfl,by decide +kernel,rfl,by decide +kernel,by decide +kernel⟩
theorem JI {f:Addr}{fd:FuncData} (F:Fun K "law" "law" wA f fd) {pL' n2'} (ig:Ev P w K mg base pL' n2') {bc' a2'} (aB:sP P w K mg base bc' a2') {er' dJ'} (dN:BV P w K mg base er' dJ') {fU' e5'} (dO:A2 P w K mg base fU' e5') {pM' n3'} (ii:IH P w K mg base pM' n3') {mn' lF'} (cP:Gy P w K mg base mn' lF') {mo' lG'} (ij:G5 P w K mg base mo' lG') {n4' mp'} (bV:Ez P w K mg base n4' mp') {mq' lH'} (ik:Fd P w K mg base mq' lH') (aE:mg "range"=none) (aG:mg "enumerate"=none):FnOk P w K mg base CX0 32 f fd ["script"] (spD K sk) :=
 qc (k:=31) (N:=["script", "pot", "turn", "fields", "things", "way", "thing", "text", "other", "found"]) F GO wa (λao A outer s H E B hr=>qb
  (pS (pQ (vM (i:=1) nk (ua ig.G (hr.mono (by decide)) rfl ig.m ig.p ig.b (f' (en 0) ki rfl))))
  (pS (rQ never rfl (sO rfl aE (f' pN ki rfl)) (gd_n (i:=2) (m:=100) nk)
  (pS (pZ (i:=3) nk (qm pN (qq aB.G (hr.mono (by decide)) rfl aB.m aB.p aB.b (pv 1) (f' pN ki rfl))))
  (pS (pZ (i:=4) nk (pX (rq (f' (qq dN.G (hr.mono (by decide)) rfl dN.m dN.p dN.b (pv 1) (f' (en 3) ki rfl)) (f' (qq dO.G (hr.mono (by decide)) rfl dO.m dO.p dO.b (pv 1) (f' (en 3) (f' pN ki rfl) rfl)) (f' (qq ii.G (hr.mono (by decide)) rfl ii.m ii.p ii.b (pv 1) (f' pN ki rfl)) ki rfl) rfl) rfl))))
  (pS (rQ never rfl (yH rfl aG (f' (en 4) ki rfl)) (uV (m:=100) rfl (rU (gd_n (i:=5) (m:=100) nk) (rU (gd_n (i:=6) (m:=100) nk) uD)))
  (pS (pZ (i:=7) nk (pU cP.G (hr.mono (by decide)) rfl cP.m cP.p cP.b (f' (en 5) (f' (en 6) ki rfl) rfl)))
  (pS (qg (TW.td (rB (rb hr (pU bV.G (hr.mono (by decide)) rfl bV.m bV.p bV.b (f' (en 5) (f' (en 7) ki rfl) rfl)) (en 6)) (rP (Ic (pU ij.G (hr.mono (by decide)) rfl ij.m ij.p ij.b (f' (en 5) (f' (pU bV.G (hr.mono (by decide)) rfl bV.m bV.p bV.b (f' (en 5) (f' (en 7) ki rfl) rfl)) ki rfl) rfl)) qL))))
  (pP (pQ (pW qL))) qk)
  (pS (pZ (i:=8) nk (qq ik.G (hr.mono (by decide)) rfl ik.m ik.p ik.b (pv 1) (f' (en 5) (f' (en 6) ki rfl) rfl)))
  (pS (qg (rb hr (yw hr (pU cP.G (hr.mono (by decide)) rfl cP.m cP.p cP.b (f' (en 5) (f' (en 8) ki rfl) rfl)) (en 7)) (yw hr (en 8) (en 6)))
  (pP (pQ (pW qL))) qk)
  (pP (qg (TW.td (uZ (wY (en 5) pN) (vv (vS (pU bV.G (hr.mono (by decide)) rfl bV.m bV.p bV.b (f' (uC pN (en 5)) (f' (en 7) ki rfl) rfl)) rp))))
  (pP (pQ (pW qL))) qk)))))))
  (pS (pZ (i:=7) nk (uk (f' (pX (qt (N':=["k", "-script", "pot", "-turn", "-fields", "-things", "-way", "-thing", "-text", "-other", "-found"]) (m:=1) (CompScope.of (by kernel_rfl)) rfl (sO rfl aE (f' (qm pN (qq aB.G (hr.mono (by decide)) rfl aB.m aB.p aB.b (pv 1) (f' pN ki rfl))) ki rfl)) (λ_ _ _ _=>(gd_n (i:=0) (m:=1) nk)) (λ_ _ _ _=>qp) (λ_ _ _ _=>(x0 qx (qq aB.G (hr.mono (by decide)) rfl aB.m aB.p aB.b (pv 2) (f' pN ki rfl)))))) ki rfl)))
  (pP (rQ never rfl (sO rfl aE (f' pN ki rfl)) (gd_n (i:=5) (m:=100) nk)
  (pS (pZ (i:=9) nk (pU bV.G (hr.mono (by decide)) rfl bV.m bV.p bV.b (f' (en 5) (f' (en 7) ki rfl) rfl)))
  (pP (qg (TW.td (uZ (vS (en 9) rp) (vv (rb hr (pU cP.G (hr.mono (by decide)) rfl cP.m cP.p cP.b (f' (en 5) (f' (en 9) ki rfl) rfl)) (en 7)))))
  (pP (pQ (pW qL))) qk))))))))))
  (pP (pQ (pW qL))))))
end
structure Dn (K:PySem.W.Frag) (mg:Str->Option Value) (x:Str) (st:Stmt) (f:Addr) (fd:FuncData):Prop where
 F:Fun K x x st f fd
 m:mg x=some (.ref f)
 a:nsIn K mainGlobals x=some (some (.ref f))
theorem dn {K:PySem.W.Frag}{h:Heap}{mg:Str->Option Value}{x:Str}{st:Stmt}{f:Addr}{od an:Option Addr}{sl:Array (Option Value)}{oc kV dc pm cd ct:Value} (X:K.In h) (G:h.Ns mainGlobals mg) (a:nsIn K mainGlobals x=some (some (.ref f))) (l:K.lookup f=some ⟨oc,od,.func (fnOf x x (defArgs st) (defBody st) (defScope st) .none kV dc pm an cd ct),sl⟩) (c:codeIn K cd x=true) (k:PySem.W.keepIn K (.ref f)=true):Dn K mg x st f (fnOf x x (defArgs st) (defBody st) (defScope st) .none kV dc pm an cd ct):=⟨Jv l c k,PySem.W.mg_of X G a,a⟩
section
variable {P:Program}{w:World}{K:PySem.W.Frag}{mg:Str->Option Value}{base:Heap}{x:Str}{st:Stmt}{f:Addr}{fd:FuncData}{k:Nat}{g:List R->Option (R×List R)}
theorem lenOf1 {α:Type}{us:List α} (h:us.length=1):∃ a,us=[a]:=by
 obtain ⟨a,us,rfl⟩:=List.exists_cons_of_length_eq_add_one h
 exact ⟨a,by rw [length_eq_zero_iff.mp (Nat.succ.inj h)]⟩
theorem lenOf2 {α:Type}{us:List α} (h:us.length=2):∃ a b,us=[a,b]:=by
 obtain ⟨a,us,rfl⟩:=List.exists_cons_of_length_eq_add_one h
 obtain ⟨b,rfl⟩:=lenOf1 (Nat.succ.inj h)
 exact ⟨a,b,rfl⟩
theorem lenOf3 {α:Type}{us:List α} (h:us.length=3):∃ a b c,us=[a,b,c]:=by
 obtain ⟨a,us,rfl⟩:=List.exists_cons_of_length_eq_add_one h
 obtain ⟨b,c,rfl⟩:=lenOf2 (Nat.succ.inj h)
 exact ⟨a,b,c,rfl⟩
theorem lenOf4 {α:Type}{us:List α} (h:us.length=4):∃ a b c d,us=[a,b,c,d]:=by
 obtain ⟨a,us,rfl⟩:=List.exists_cons_of_length_eq_add_one h
 obtain ⟨b,c,d,rfl⟩:=lenOf3 (Nat.succ.inj h)
 exact ⟨a,b,c,d,rfl⟩
theorem Dn.b1 {p:Str} (D:Dn K mg x st f fd) (h:∀ (kV dc pm:Value) (an:Option Addr) (cd ct a:Value),bindArgs (fnOf x x (defArgs st) (defBody st) (defScope st) .none kV dc pm an cd ct) ⟨[a],[]⟩=pure [(p,a)]:=by intros;rfl):Binds K fd [p] []:=D.F.binds λ_ _ _ _ _ _ us hl=>by obtain ⟨a,rfl⟩:=lenOf1 hl;exact h _ _ _ _ _ _ a
theorem Dn.x1 {cl:Nat->Addr}{gx:List D->Option Nat}{p:Str} (D:Dn K mg x st f fd) (G:FnOk P w K mg base (CXX P w) k f fd [p] (spE K cl gx)) (h:∀ (kV dc pm:Value) (an:Option Addr) (cd ct a:Value),bindArgs (fnOf x x (defArgs st) (defBody st) (defScope st) .none kV dc pm an cd ct) ⟨[a],[]⟩=pure [(p,a)]:=by intros;rfl):CdX P w K mg base cl k f fd [p] gx x:=⟨G,D.b1 h,D.F.kp,D.m⟩
theorem Dn.c1 {p:Str} (D:Dn K mg x st f fd) (G:FnOk P w K mg base CX0 k f fd [p] (spD K g)) (h:∀ (kV dc pm:Value) (an:Option Addr) (cd ct a:Value),bindArgs (fnOf x x (defArgs st) (defBody st) (defScope st) .none kV dc pm an cd ct) ⟨[a],[]⟩=pure [(p,a)]:=by intros;rfl):Cd P w K mg base k f fd [p] g x:=⟨G,D.b1 h,D.F.kp,D.m⟩
theorem Dn.b2 {p q:Str} (D:Dn K mg x st f fd) (h:∀ (kV dc pm:Value) (an:Option Addr) (cd ct a b:Value),bindArgs (fnOf x x (defArgs st) (defBody st) (defScope st) .none kV dc pm an cd ct) ⟨[a,b],[]⟩=pure [(p,a),(q,b)]:=by intros;rfl):Binds K fd [p,q] []:=D.F.binds λ_ _ _ _ _ _ us hl=>by obtain ⟨a,b,rfl⟩:=lenOf2 hl;exact h _ _ _ _ _ _ a b
theorem Dn.x2 {cl:Nat->Addr}{gx:List D->Option Nat}{p q:Str} (D:Dn K mg x st f fd) (G:FnOk P w K mg base (CXX P w) k f fd [p,q] (spE K cl gx)) (h:∀ (kV dc pm:Value) (an:Option Addr) (cd ct a b:Value),bindArgs (fnOf x x (defArgs st) (defBody st) (defScope st) .none kV dc pm an cd ct) ⟨[a,b],[]⟩=pure [(p,a),(q,b)]:=by intros;rfl):CdX P w K mg base cl k f fd [p,q] gx x:=⟨G,D.b2 h,D.F.kp,D.m⟩
theorem Dn.c2 {p q:Str} (D:Dn K mg x st f fd) (G:FnOk P w K mg base CX0 k f fd [p,q] (spD K g)) (h:∀ (kV dc pm:Value) (an:Option Addr) (cd ct a b:Value),bindArgs (fnOf x x (defArgs st) (defBody st) (defScope st) .none kV dc pm an cd ct) ⟨[a,b],[]⟩=pure [(p,a),(q,b)]:=by intros;rfl):Cd P w K mg base k f fd [p,q] g x:=⟨G,D.b2 h,D.F.kp,D.m⟩
theorem Dn.b3 {p q r:Str} (D:Dn K mg x st f fd) (h:∀ (kV dc pm:Value) (an:Option Addr) (cd ct a b c:Value),bindArgs (fnOf x x (defArgs st) (defBody st) (defScope st) .none kV dc pm an cd ct) ⟨[a,b,c],[]⟩=pure [(p,a),(q,b),(r,c)]:=by intros;rfl):Binds K fd [p,q,r] []:=D.F.binds λ_ _ _ _ _ _ us hl=>by obtain ⟨a,b,c,rfl⟩:=lenOf3 hl;exact h _ _ _ _ _ _ a b c
theorem Dn.x3 {cl:Nat->Addr}{gx:List D->Option Nat}{p q r:Str} (D:Dn K mg x st f fd) (G:FnOk P w K mg base (CXX P w) k f fd [p,q,r] (spE K cl gx)) (h:∀ (kV dc pm:Value) (an:Option Addr) (cd ct a b c:Value),bindArgs (fnOf x x (defArgs st) (defBody st) (defScope st) .none kV dc pm an cd ct) ⟨[a,b,c],[]⟩=pure [(p,a),(q,b),(r,c)]:=by intros;rfl):CdX P w K mg base cl k f fd [p,q,r] gx x:=⟨G,D.b3 h,D.F.kp,D.m⟩
theorem Dn.c3 {p q r:Str} (D:Dn K mg x st f fd) (G:FnOk P w K mg base CX0 k f fd [p,q,r] (spD K g)) (h:∀ (kV dc pm:Value) (an:Option Addr) (cd ct a b c:Value),bindArgs (fnOf x x (defArgs st) (defBody st) (defScope st) .none kV dc pm an cd ct) ⟨[a,b,c],[]⟩=pure [(p,a),(q,b),(r,c)]:=by intros;rfl):Cd P w K mg base k f fd [p,q,r] g x:=⟨G,D.b3 h,D.F.kp,D.m⟩
theorem Dn.b4 {p q r s:Str} (D:Dn K mg x st f fd) (h:∀ (kV dc pm:Value) (an:Option Addr) (cd ct a b c d:Value),bindArgs (fnOf x x (defArgs st) (defBody st) (defScope st) .none kV dc pm an cd ct) ⟨[a,b,c,d],[]⟩=pure [(p,a),(q,b),(r,c),(s,d)]:=by intros;rfl):Binds K fd [p,q,r,s] []:=D.F.binds λ_ _ _ _ _ _ us hl=>by obtain ⟨a,b,c,d,rfl⟩:=lenOf4 hl;exact h _ _ _ _ _ _ a b c d
theorem Dn.x4 {cl:Nat->Addr}{gx:List D->Option Nat}{p q r s:Str} (D:Dn K mg x st f fd) (G:FnOk P w K mg base (CXX P w) k f fd [p,q,r,s] (spE K cl gx)) (h:∀ (kV dc pm:Value) (an:Option Addr) (cd ct a b c d:Value),bindArgs (fnOf x x (defArgs st) (defBody st) (defScope st) .none kV dc pm an cd ct) ⟨[a,b,c,d],[]⟩=pure [(p,a),(q,b),(r,c),(s,d)]:=by intros;rfl):CdX P w K mg base cl k f fd [p,q,r,s] gx x:=⟨G,D.b4 h,D.F.kp,D.m⟩
theorem Dn.c4 {p q r s:Str} (D:Dn K mg x st f fd) (G:FnOk P w K mg base CX0 k f fd [p,q,r,s] (spD K g)) (h:∀ (kV dc pm:Value) (an:Option Addr) (cd ct a b c d:Value),bindArgs (fnOf x x (defArgs st) (defBody st) (defScope st) .none kV dc pm an cd ct) ⟨[a,b,c,d],[]⟩=pure [(p,a),(q,b),(r,c),(s,d)]:=by intros;rfl):Cd P w K mg base k f fd [p,q,r,s] g x:=⟨G,D.b4 h,D.F.kp,D.m⟩
end
theorem all_mk {P:Program}{w:World}{K:PySem.W.Frag}{mg:Str->Option Value}{fa:Addr} (nV:mg "law"=some (.ref fa))
  {f0 d0} (D0:Dn K mg "is_whole" yK f0 d0)
  {f1 d1} (D1:Dn K mg "is_figure" yC f1 d1)
  {f2 d2} (D2:Dn K mg "is_pair" wR f2 d2)
  {f3 d3} (D3:Dn K mg "has_fields" xo f3 d3)
  {f4 d4} (D4:Dn K mg "is_letter" yd f4 d4)
  {f5 d5} (D5:Dn K mg "is_wish" wt f5 d5)
  {f6 d6} (D6:Dn K mg "is_web" xP f6 d6)
  {f7 d7} (D7:Dn K mg "is_road" wb f7 d7)
  {f8 d8} (D8:Dn K mg "has_ring" yO f8 d8)
  {f9 d9} (D9:Dn K mg "must_be_house" wI f9 d9)
  {f10 d10} (lG:Dn K mg "neighbours_of" wV f10 d10)
  {f11 d11} (lH:Dn K mg "way_between" wH f11 d11)
  {f12 d12} (gB:Dn K mg "way_on" vV f12 d12)
  {f13 d13} (lI:Dn K mg "show_letter" xh f13 d13)
  {f14 d14} (lJ:Dn K mg "show_wish" ww f14 d14)
  {f15 d15} (lK:Dn K mg "show_web" xV f15 d15)
  {f16 d16} (lL:Dn K mg "show_pair" xm f16 d16)
  {f17 d17} (il:Dn K mg "read_letter" uK f17 d17)
  {f18 d18} (im:Dn K mg "read_wish" vP f18 d18)
  {f19 d19} (io:Dn K mg "read_web" uO f19 d19)
  {f20 d20} (ir:Dn K mg "read_pair" vN f20 d20)
  {f21 d21} (iu:Dn K mg "read_number" vi f21 d21)
  {f22 d22} (lM:Dn K mg "_law_blend" v8 f22 d22)
  {f23 d23} (lN:Dn K mg "_law_pot" yo f23 d23)
  {f24 d24} (lO:Dn K mg "_law_pick" yN f24 d24)
  {f25 d25} (lP:Dn K mg "_law_order" xO f25 d25)
  {f26 d26} (lQ:Dn K mg "_law_web" yL f26 d26)
  {f27 d27} (lR:Dn K mg "_law_pair" yk f27 d27)
  {f28 d28} (lS:Dn K mg "_law_wish" yP f28 d28)
  {f29 d29} (lU:Dn K mg "_law_letter" yZ f29 d29)
  {f30 d30} (lV:Dn K mg "_law_read" yi f30 d30)
  {f31 d31} (lW:Dn K mg "_law_shown" xg f31 d31)
  {f32 d32} (lX:Dn K mg "_law_is_it" xw f32 d32)
  {f33 d33} (lY:Dn K mg "_law_other" y8 f33 d33)
  {f34 d34} (jR:Dn K mg "law" wA f34 d34)
  (bH:mg "all"=none)
  (b9:mg "any"=none)
  (dG:mg "bool"=none)
  (aG:mg "enumerate"=none)
  (bR:mg "int"=none)
  (am:mg "isinstance"=none)
  (aC:mg "len"=none)
  (bS:mg "list"=none)
  (eT:mg "max"=none)
  (cJ:mg "min"=none)
  (aE:mg "range"=none)
  (eR:mg "set"=none)
  (aS:mg "sorted"=none)
  (bI:mg "str"=none)
  (ae:mg "tuple"=none)
  {br:Tok} (aU:mg "FIGURES"=some (.str "0123456789" br))
  {da:Tok} (db:mg "LEAST"=some (.int 0 da))
  {dH:Tok} (dI:mg "MOST"=some (.int 9 dH))
  {bj:Tok} (bo:mg "MOST_FIELDS"=some (.int 3 bj))
  {aN:Tok} (aF:mg "MOST_FIGURES"=some (.int 4 aN))
  {bp:Tok} (bq:mg "MOST_HOUSES"=some (.int 8 bp))
  {cL:Addr} (aj:mg "NoText"=some (.ref cL)) (ak:PySem.W.excIn K cL [.type "ValueError", .type "Exception", .type "BaseException", .type "object"] "ValueError.__new__"=true) :
  ∃ fd:FuncData,(∀ (s:Shared) (v:Value),BindsTo s fd ⟨[v],[]⟩ [("script", v)])/\∀ base:Heap,K.In base->base.Ns mainGlobals mg->FnOk P w K mg base CX0 32 fa fd ["script"] (spD K sk):=by
 cases nV.symm.trans jR.m
 refine ⟨d34,λs v=>?_,λbase _ _=>?_⟩
 ·obtain ⟨_,_,_,_,_,_,_,_,_,rfl,_,_⟩:=jR.F.ex
  exact .of_eq rfl
 obtain ⟨cl,cD⟩:∃ cl:Nat->Addr,cl=(λn:Nat=>cL):=⟨_,rfl⟩
 have aj:mg "NoText"=some (.ref (cl 0)):=by rw [cD];exact aj
 have ak:xcIn K (cl 0)=true:=by rw [cD];exact ak
 have nW:=lN.c1 (Ke (P:=P) (w:=w) (base:=base) lN.F bS aG)
 have nX:=lM.c2 (EQ (P:=P) (w:=w) (base:=base) lM.F )
 have fq:=lO.c2 (HF lO.F nX aC)
 have lZ:=lU.c2 (Gb lU.F fq aE ae)
 have nY:=lR.c2 (GM lR.F fq cJ)
 have l7:=lS.c3 (Hl lS.F nY aE ae)
 have nZ:=lP.c2 (KY lP.F fq aE)
 have n4:=lQ.c2 (Dl lQ.F fq nZ aE cJ eT aS ae)
 have n5:=lI.c1 (K6 (P:=P) (w:=w) (base:=base) lI.F bI)
 have l8:=lL.c1 (DM (P:=P) (w:=w) (base:=base) lL.F bI)
 have n6:=lJ.c1 (Jx lJ.F l8)
 have n9:=lK.c1 (JK lK.F l8 bI)
 have og:=lW.c2 (G1 lW.F n5 n6 n9)
 have C0:=D0.c1 (DW (P:=P) (w:=w) (base:=base) D0.F am dG bR)
 have C1:=D1.c1 (Hh D1.F C0 db dI)
 have C3:=D3.c1 (Ee (P:=P) (w:=w) (base:=base) D3.F aC am ae bo)
 have C4:=D4.c1 (JA D4.F C1 C3 bH)
 have C2:=D2.c1 (FR D2.F C1 aC am ae)
 have C5:=D5.c1 (Hu D5.F C2 C3 bH)
 have C7:=D7.c2 (Eh D7.F C0 aC am ae)
 have C9:=D9.c2 (Eu (P:=P) (w:=w) (base:=base) D9.F )
 have oh:=lG.c2 (FZ lG.F C9 aS)
 have oj:=gB.c4 (BM gB.F oh gB.b4 gB.F.kp gB.m 21)
 have om:=lH.c3 (Et lH.F C9 oj)
 have C8:=D8.c2 (Fb D8.F om aG)
 have C6:=D6.c1 (JV D6.F C0 C7 C8 aC am ae bH aS eR bS bq)
 have oo:=lX.c2 (Ix lX.F C4 C5 C6)
 have ft:=iu.c1 (JO (P:=P) (w:=w) (base:=base) iu.F aj ak b9 aC bR aU aF)
 have fv:=iu.x1 (IY (P:=P) (w:=w) (base:=base) iu.F aj ak b9 aC bR aU aF)
 have oq:=il.c1 (Hy il.F ft C4 fv aj ak ae)
 have ou:=il.x1 (Ho il.F ft C4 fv aj ak ae)
 have ix:=ir.c1 (Hq ir.F ft fv ae)
 have iy:=ir.x1 (Gh ir.F ft fv ae)
 have ow:=im.c1 (G8 im.F ix C5 iy aj ak ae)
 have ox:=im.x1 (HH im.F ix C5 iy aj ak ae)
 have oy:=io.c1 (J9 io.F ft ix C6 iy fv aj ak ae)
 have oz:=io.x1 (FL io.F ft ix C6 iy fv aj ak ae)
 have oA:=lV.c2 (IA lV.F oq ow oy ou ox oz aj ak)
 have oB:=lY.c3 (Gv lY.F fq lZ l7 aC)
 exact JI jR.F nW fq lZ l7 n4 og oo oA oB aE aG
theorem walk {l:PySem.W.OpenLaw}{q:Program}{cA:List Str}{XP:(Str->Option Value)->Heap->Prop}{YP:World->Heap->Prop}{d:DefRec}{K:Params->PySem.W.Frag} (l9:∀ ns:List Int,ns.length<=63->∃ rs,sk [.val (.lst (ns.map D.int))]=some (.val (.bl true),rs)) (hn:l.most=some 63) (fI:d.params.defaults=[])
  (hY:∀ (w:World) (h:Heap),YP w h->(K w.params).In h)
  (F:∀ (w:World) (mg:Str->Option Value) (fa:Addr) (h:Heap),(K w.params).In h->h.Ns mainGlobals mg->mg d.name=some (.ref fa) →
   ∃ fd:FuncData,(∀ (s:Shared) (u:Value),BindsTo s fd ⟨[u],[]⟩ [("script", u)])/\∀ base:Heap,(K w.params).In base->base.Ns mainGlobals mg->FnOk l.prog w (K w.params) mg base CX0 32 fa fd ["script"] (spD (K w.params) sk)) :
  PySem.W.WalkO q cA XP YP l.row.toRowW d [] (λf vs=>PySem.call f vs) :=
 Ii (n:=63) (k:=32) (x := "script") (CX:=λ_=>CX0) (sp:=λw=>spD (K w.params) sk) hn (by decide) fI ⟨rfl,by decide,by decide,rfl⟩ hY F (λ_ H a ns hl _ hS=>Dg hS (l9 ns hl)) λ_ _ _ _ _ z=>z
end Own
namespace Own
open DL L2
def Adj (rs:List (Int×Int)) (a b:Int):Prop:=(a,b)∈rs\/(b,a)∈rs
theorem Adj.symm {rs:List (Int×Int)}{a b:Int} (h:Adj rs a b):Adj rs b a:=h.elim .inr .inl
structure Web (n:Nat) (rs:List (Int×Int)) (rk:Int->Nat):Prop where
 n1:1<=n
 n8:n<=8
 lt:∀ r∈rs,0<=r.1/\r.1 < r.2/\r.2 < n
 nd:rs.Nodup
 ne:∀ a b,Adj rs a b->rk a≠rk b
 rk8:∀ a b,Adj rs a b->rk a < 8
 one:∀ v a b,Adj rs v a->Adj rs v b->rk a < rk v->rk b < rk v->a=b
def Par (rs:List (Int×Int)) (rk:Int->Nat) (v p:Int):Prop:=Adj rs v p/\rk p < rk v
inductive Desc (rs:List (Int×Int)) (rk:Int->Nat) (x:Int):Int->Prop where
 | refl:Desc rs rk x x
 | up {v p:Int} (a:Par rs rk v p) (d:Desc rs rk x p):Desc rs rk x v
noncomputable def Wl (N:Int->List Int):Nat->Option Int->Int->List Int
 | 0,_,h=>[h]
 | k+1,c,h=>h::((N h).filter λu=>decide (some u≠c)).flatMap (Wl N k (some h))
theorem uB {N:Int->List Int}{k:Nat}{c:Option Int}{h:Int}:h∈Wl N k c h:=by
 cases k<;>exact mem_cons_self
theorem wL {N:Int->List Int}{k:Nat}{c:Option Int}{h v:Int}:v∈Wl N (k+1) c h↔v=h\/∃ u,u∈N h/\some u≠c/\v∈Wl N k (some h) u:=by
 rw [Wl,mem_cons,mem_flatMap]
 simp only [mem_filter,decide_eq_true_eq,and_assoc]
section
variable {n:Nat}{rs:List (Int×Int)}{rk:Int->Nat}{N:Int->List Int}
theorem Desc.rk_le {x v:Int} (h:Desc rs rk x v):rk x<=rk v:=by
 induction h with
 | refl=>exact le_refl _
 | up a _ ih=>exact le_trans ih (le_of_lt a.2)
theorem Desc.trans {x y v:Int} (h1:Desc rs rk x y) (h2:Desc rs rk y v):Desc rs rk x v:=by
 induction h2 with
 | refl=>exact h1
 | up a _ ih=>exact .up a ih
theorem Web.chain (W:Web n rs rk){a b v:Int} (h1:Desc rs rk a v) (h2:Desc rs rk b v):Desc rs rk a b\/Desc rs rk b a:=by
 induction h1 with
 | refl=>exact .inr h2
 | @up v p q d ih =>
  cases h2 with
  | refl=>exact .inl (.up q d)
  | @up _ p' q' d' =>
   have:=W.one v p p' q.1 q'.1 q.2 q'.2
   subst this
   exact ih d'
theorem Web.sib0 (W:Web n rs rk){a b h:Int} (pa:Par rs rk a h) (pb:Par rs rk b h) (d:Desc rs rk a b):a=b:=by
 cases d with
 | refl=>rfl
 | @up _ p q d' =>
  have:=W.one b p h q.1 pb.1 q.2 pb.2
  subst this
  have:=d'.rk_le
  have:=pa.2
  omega
theorem Web.sib (W:Web n rs rk){a b h v:Int} (pa:Par rs rk a h) (pb:Par rs rk b h) (h1:Desc rs rk a v) (h2:Desc rs rk b v):a=b:=by
 rcases W.chain h1 h2 with d | d
 ·exact W.sib0 pa pb d
 ·exact (W.sib0 pb pa d).symm
def Side (rs:List (Int×Int)) (rk:Int->Nat) (c h v:Int):Prop:=(rk c < rk h/\Desc rs rk h v)\/(rk h < rk c/\¬ Desc rs rk c v)
theorem Web.side (W:Web n rs rk) (hN:∀ v u,u∈N v↔Adj rs v u):∀ (k:Nat) (c h:Int),Adj rs c h->∀ v∈Wl N k (some c) h,Side rs rk c h v:=by
 have base:∀ c h,Adj rs c h->Side rs rk c h h:=λc h a=>by
  have:=W.ne c h a
  by_cases l:rk c < rk h
  ·exact .inl ⟨l,.refl⟩
  ·exact .inr ⟨by omega,λd=>by have:=d.rk_le;omega⟩
 intro k
 induction k with
 | zero=>intro c h a v hv;rw [Wl,mem_singleton] at hv;subst hv;exact base c v a
 | succ k ih =>
  intro c h a v hv
  rcases wL.mp hv with rfl | ⟨u,hu,hc,hv⟩
  ·exact base c v a
  ·have au:=(hN h u).mp hu
   have hc:u≠c:=λz=>hc (by rw [z])
   have s:=ih h u au v hv
   have n1:=W.ne c h a
   have n2:=W.ne h u au
   by_cases l:rk c < rk h
   ·rcases s with ⟨s1,s2⟩ | ⟨s1,_⟩
    ·exact .inl ⟨l,.trans (.up ⟨au.symm,s1⟩ .refl) s2⟩
    ·exact absurd (W.one h u c au a.symm s1 l) hc
   ·have l:rk h < rk c:=by omega
    have pc:Par rs rk c h:=⟨a,l⟩
    refine .inr ⟨l,λd=>?_⟩
    rcases s with ⟨s1,s2⟩ | ⟨s1,s2⟩
    ·exact hc (W.sib (h:=h) ⟨au.symm,s1⟩ pc s2 d)
    ·exact s2 (.trans (.up pc .refl) d)
theorem Web.back (W:Web n rs rk) (hN:∀ v u,u∈N v↔Adj rs v u){k:Nat}{c h:Int} (a:Adj rs c h):c∉Wl N k (some c) h:=λm=>by
 rcases W.side hN k c h a c m with ⟨s1,s2⟩ | ⟨_,s2⟩
 ·have:=s2.rk_le;omega
 ·exact s2 .refl
theorem Web.apart (W:Web n rs rk) (hN:∀ v u,u∈N v↔Adj rs v u){k:Nat}{h a b v:Int} (ha:Adj rs h a) (hb:Adj rs h b) (h1:v∈Wl N k (some h) a) (h2:v∈Wl N k (some h) b):a=b:=by
 rcases W.side hN k h a ha v h1 with ⟨s1,s2⟩ | ⟨s1,s2⟩<;>rcases W.side hN k h b hb v h2 with ⟨t1,t2⟩ | ⟨t1,t2⟩
 ·exact W.sib (h:=h) ⟨ha.symm,s1⟩ ⟨hb.symm,t1⟩ s2 t2
 ·exact absurd (.trans (.up ⟨ha.symm,s1⟩ .refl) s2) t2
 ·exact absurd (.trans (.up ⟨hb.symm,t1⟩ .refl) t2) s2
 ·exact W.one h a b ha hb s1 t1
theorem zv {α β:Type}{f:α->List β}:∀ {l:List α},l.Nodup->(∀ x∈l,(f x).Nodup)->(∀ x∈l,∀ y∈l,∀ v,v∈f x->v∈f y->x=y)->(l.flatMap f).Nodup
 | [],_,_,_=>nodup_nil
 | x::l,hn,h1,h2=>by
  rw [List.flatMap_cons,nodup_append]
  rw [nodup_cons] at hn
  refine ⟨h1 x mem_cons_self,zv hn.2 (λy hy=>h1 y (mem_cons_of_mem _ hy)) (λy hy z hz=>h2 y (mem_cons_of_mem _ hy) z (mem_cons_of_mem _ hz)),λv hv u hu e=>?_⟩
  subst e
  obtain ⟨y,hy,dZ⟩:=mem_flatMap.mp hu
  have:=h2 x mem_cons_self y (mem_cons_of_mem _ hy) v hv dZ
  subst this
  exact hn.1 hy
theorem Web.nodup (W:Web n rs rk) (hN:∀ v u,u∈N v↔Adj rs v u) (hn:∀ v,(N v).Nodup):∀ (k:Nat) (c:Option Int) (h:Int),(Wl N k c h).Nodup:=by
 intro k
 induction k with
 | zero=>intro c h;rw [Wl];exact nodup_cons.mpr ⟨by simp,nodup_nil⟩
 | succ k ih =>
  intro c h
  rw [Wl,nodup_cons]
  refine ⟨λm=>?_,zv ((hn h).filter _) (λu hu=>ih _ _) λu hu v hv x h1 h2=>?_⟩
  ·obtain ⟨u,hu,m⟩:=mem_flatMap.mp m
   exact W.back hN ((hN h u).mp (mem_filter.mp hu).1) m
  ·exact W.apart hN ((hN h u).mp (mem_filter.mp hu).1) ((hN h v).mp (mem_filter.mp hv).1) h1 h2
noncomputable def mu (rk:Int->Nat):Option Int->Int->Nat
 | none,_=>18
 | some c,h=>if rk c < rk h then 8 - rk h else 9+rk h
theorem Web.mu_lt (W:Web n rs rk){c:Option Int}{h u:Int} (hc:∀ x,c=some x->Adj rs x h) (hu:Adj rs h u) (ne:some u≠c):mu rk (some h) u < mu rk c h:=by
 have n2:=W.ne h u hu
 have r1:=W.rk8 h u hu
 have r2:=W.rk8 u h hu.symm
 cases c with
 | none=>simp only [mu];split<;>omega
 | some c =>
  have a:=hc c rfl
  have n1:=W.ne c h a
  simp only [mu]
  by_cases l:rk c < rk h
  ·rw [if_pos l]
   by_cases m:rk h < rk u
   ·rw [if_pos m];omega
   ·exact absurd (W.one h u c hu a.symm (by omega) l) (λz=>ne (by rw [z]))
  ·rw [if_neg l]
   split<;>omega
end
def PotOk (c:List D):Prop:=∃ (ns:List Int) (at_ af:Int),c=[.lst (ns.map .int),.int at_,.int af]/\0<=at_
theorem FH (a b:Int):∃ z,cvF ut [.int a,.int b]=some (.int z):=by
 have:wpF ut [.val (.int a),.val (.int b)] λr _=>∃ z,r=.val (.int z):=by
  refine sw rfl λKE hE _=>?_
  rw [xy]
  refine pR ?_;rintro K hK hR
  simp
  split
  ·exact hR _ _ (hE _ _ ⟨_,rfl,_,rfl⟩)
  ·refine hK _ ?_
   refine pR ?_;rintro K hK -
   simp
   refine hK _ ?_
   have l1:=emod_nonneg (a % 998244353*40692+b*69621+1009) (show (2147483399:Int)≠0 by decide)
   have u1:=emod_lt_of_pos (a % 998244353*40692+b*69621+1009) (show (0:Int) < 2147483399 by decide)
   generalize (a % 998244353*40692+b*69621+1009) % 2147483399=x at *
   refine pR ?_;rintro K hK -
   simp
   refine ⟨by omega,hK _ ?_⟩
   have l2:=emod_nonneg (x*x+b*48271+a % 131071) (show (2147483647:Int)≠0 by decide)
   have u2:=emod_lt_of_pos (x*x+b*48271+a % 131071) (show (0:Int) < 2147483647 by decide)
   generalize (x*x+b*48271+a % 131071) % 2147483647=y at *
   refine pR ?_;rintro K hK -
   simp
   refine ⟨by omega,hK _ ?_⟩
   generalize (y*y+x*17+3) % 2147483629=z at *
   simp
   exact hE _ _ ⟨_,rfl,_,rfl⟩
 obtain ⟨r,aI,e,z,rfl⟩:=this
 exact ⟨z,by unfold cvF;simp only [map];rw [e]⟩
theorem qH {c:List D}{u:Int}{Q:R->List D->Prop} (hc:PotOk c) (h1:1<=u) (h2:u < 2 ^ 200) (k:∀ n c',0<=n->n < u->PotOk c'->Q (.val (.int n)) c'):wpB qB c [.int u] Q:=by
 obtain ⟨ns,at_,af,rfl,h0⟩:=hc
 refine rF rfl λKE hE _=>?_
 rw [wT]
 refine xF (λZ=>∃ jS iL x y z,0<=jS/\Z=[some (.bor [.lst (ns.map .int),.int jS,.int iL]),some (.val (.int u)),x,y,z]) (λK hK _=>?_) ?_
 ·simp [isMut,R.mut]
  split
  ·refine pR λK1 dP _=>?_
   simp [isMut,R.mut]
   refine dP _ ?_
   refine pR λK1 dP _=>?_
   simp [isMut,R.mut]
   refine dP _ ?_
   refine xF (λZ=>∃ m,Z=[some (.bor [.lst (ns.map .int),.int at_,.int af]),some (.val (.int u)),some (.val (.int at_)),some (.val (.int m)),none]) (λK1 dP _=>?_) ?_
   ·simp [isMut,R.mut]
    split
    ·rename_i h
     obtain ⟨a,e,m⟩:=BI (ds:=ns.map D.int) h0 (by simpa using h)
     obtain ⟨b,_,rfl⟩:=mem_map.mp m
     rw [so e]
     simp
     exact dP _ ⟨_,rfl⟩
    ·rename_i h
     split
     ·exact dP _ ⟨_,rfl⟩
     ·rename_i h'
      have hl:0 < ns.length:=by cases ns with | nil=>simp at h' | cons=>simp
      refine ⟨by omega,?_⟩
      obtain ⟨a,e,m⟩:=BI (ds:=ns.map D.int) (i:=(at_*7+1) % (ns.length:Int)) (emod_nonneg _ (by omega)) (by simpa using emod_lt_of_pos _ (by omega))
      obtain ⟨b,_,rfl⟩:=mem_map.mp m
      rw [so e]
      simp
      exact ⟨by omega,dP _ ⟨_,rfl⟩⟩
   ·rintro Z ⟨m,rfl⟩
    refine pR λK1 dP _=>?_
    simp [isMut,R.mut]
    refine dP _ ?_
    obtain ⟨z,e⟩:=FH m at_
    simp [isMut,R.mut,e]
    exact hK _ ⟨_,_,_,_,_,by omega,rfl⟩
  ·exact hK _ ⟨_,_,_,_,_,h0,rfl⟩
 ·rintro Z ⟨jS,iL,x,y,z,h3,rfl⟩
  refine pR ?_;rintro K hK -
  simp [isMut,R.mut]
  refine ⟨by omega,hK _ ?_⟩
  refine pR ?_;rintro K hK -
  simp [isMut,R.mut]
  refine ⟨⟨by omega,by simpa using h2⟩,hK _ ?_⟩
  simp
  exact hE _ _ _ ⟨_,rfl⟩ (k _ _ (emod_nonneg _ (by omega)) (emod_lt_of_pos _ (by omega)) ⟨_,_,_,rfl,h3⟩)
theorem tu {xs:List D}{m i:Nat}{d:D} (h:(numD m xs)[i]?=some d):∃ x,xs[i]?=some x/\d=.tup [.int ((m+i:Nat):Int),x]:=by
 induction xs generalizing m i with
 | nil=>simp [numD] at h
 | cons a xs ih =>
  cases i with
  | zero=>simp [numD] at h;exact ⟨a,rfl,h.symm⟩
  | succ i =>
   simp only [numD,List.getElem?_cons_succ] at h
   obtain ⟨x,e1,e2⟩:=ih h
   exact ⟨x,by simpa using e1,by rw [e2,show m+1+i=m+(i+1) from by omega]⟩
theorem Bj {α:Type}{f:α->D}{xs:List α}{lo hi:Option Int}:∃ ys:List α,cutD (xs.map f) lo hi=ys.map f/\(∀ y∈ys,y∈xs)/\ys.length=min (HT.sIx xs.length xs.length hi - HT.sIx xs.length 0 lo) (xs.length - HT.sIx xs.length 0 lo):=by
 refine ⟨(xs.drop (HT.sIx xs.length 0 lo)).take (HT.sIx xs.length xs.length hi - HT.sIx xs.length 0 lo),?_,?_,?_⟩
 ·unfold cutD
  simp [List.map_drop,map_take]
 ·intro y h
  exact mem_of_mem_drop (mem_of_mem_take h)
 ·simp
theorem Kl (ns:List Int):∃ d,coF tx [.lst (ns.map .int)]=some d/\PotOk d:=by
 refine F8 ?_
 unfold tx
 refine Bm rfl ?_
 rw [yW]
 refine pR λK hK _=>?_
 simp
 refine hK _ ?_
 obtain ⟨cs,e,-,hl⟩:=Bj (f:=D.int) (xs:=ns) (lo:=none) (hi:=some 12)
 rw [e]
 have jg:cs.length=min 12 ns.length:=by
  rw [hl];simp [HT.sIx]
 refine xF (λZ=>∃ cs,∃ x y z,Z=[x,some (.own (map D.int cs)),y,z]) (λK hK _=>?_) ?_
 ·simp
  obtain ⟨ms,e,-,hm⟩:=Bj (f:=D.int) (xs:=ns) (lo:=some 12) (hi:=some 63)
  rw [e]
  refine zh (J:=λi Γ=>∃ cs:List Int,∃ y z,cs.length=min 12 ns.length/\Γ=[some (.val (.lst (ns.map .int))),some (.own (cs.map .int)),y,z]) ⟨cs,_,_,jg,rfl⟩ ?_ ?_
  ·rintro i d Γ hd ⟨cs,y,z,hc,rfl⟩
   obtain ⟨x,e1,rfl⟩:=tu hd
   rw [getElem?_map,map_eq_some_iff] at e1
   obtain ⟨n,e1,rfl⟩:=e1
   have hi:i < ms.length:=(List.getElem?_eq_some_iff.mp e1).1
   have pD:12 < ns.length:=by
    simp [HT.sIx] at hm
    omega
   simp [isMut,R.mut]
   have iP:cs.length=12:=by omega
   have oD:((i:Int) % 12)=((i % 12:Nat):Int):=by omega
   rw [oD]
   have bc:i % 12 < cs.length:=by omega
   rw [so (a:=D.int cs[i % 12]) (by rw [r8];simp [bc])]
   simp
   refine ⟨(cs.set (i % 12) (cs[i % 12]+n)).map .int,?_,?_⟩
   ·unfold stF L2.ixN
    rw [if_pos (by omega),if_pos (by simp;omega),show ((i:Int) % 12).toNat=i % 12 from by omega]
    simp
   ·exact ⟨cs.set (i % 12) (cs[i % 12]+n),by simpa using hc,by simp⟩
  ·rintro Γ ⟨cs,y,z,hc,rfl⟩
   exact hK _ ⟨cs,_,_,_,rfl⟩
 ·rintro Z ⟨cs,x,y,z,rfl⟩
  simp [flR,fin]
  exact ⟨cs,0,0,rfl,by omega⟩
noncomputable def pairD (p:Int×Int):D:=.tup [.int p.1,.int p.2]
@[simp] theorem LU {p:Int×Int}:ixF (pairD p) (.int 0)=some (.int p.1):=rfl
@[simp] theorem Ln {p:Int×Int}:ixF (pairD p) (.int 1)=some (.int p.2):=rfl
theorem zC {lo:Int}{n i:Nat}{d:D} (h:(rngD lo n)[i]?=some d):d=.int (lo+i)/\i < n:=by
 unfold rngD at h
 rw [getElem?_map,map_eq_some_iff] at h
 obtain ⟨k,h1,rfl⟩:=h
 obtain ⟨h2,h3⟩:=List.getElem?_eq_some_iff.mp h1
 rw [List.getElem_range] at h3
 subst h3
 exact ⟨rfl,by simpa using h2⟩
@[simp] theorem Ar {lo:Int}{n:Nat}:(rngD lo n).length=n:=by simp [rngD]
theorem sj {ds:List D}{n:Nat} (h:∀ d∈ds,dep d<=n):depA ds<=n:=by
 induction ds with
 | nil=>simp [depA]
 | cons d ds ih =>
  rw [depA]
  have h1:=h d mem_cons_self
  have h2:=ih λd hd=>h d (mem_cons_of_mem _ hd)
  omega
noncomputable def webD (n:Nat) (rs:List (Int×Int)):D:=.tup [.int n,.tup (rs.map pairD)]
@[simp] theorem MM {n:Nat}{rs:List (Int×Int)}:ixF (webD n rs) (.int 0)=some (.int n):=rfl
@[simp] theorem M3 {n:Nat}{rs:List (Int×Int)}:ixF (webD n rs) (.int 1)=some (.tup (rs.map pairD)):=rfl
noncomputable def sortI (xs:List Int):List Int:=xs.mergeSort λa b=>decide (a<=b)
theorem IZ (xs:List Int):(sortI xs).Perm xs:=mergeSort_perm _ _
theorem En (xs:List Int):sortD (xs.map D.int)=(sortI xs).map D.int:=by
 unfold sortD sortI
 refine (List.map_mergeSort λa _ b _=>?_).symm
 unfold leD
 rw [rX]
 by_cases h:a<=b
 ·rw [decide_eq_true h,decide_eq_false (by omega)];rfl
 ·rw [decide_eq_false h,decide_eq_true (by omega)];rfl
theorem B3 {xs:List Int}:depA (xs.map D.int)<=0:=sj λd hd=>by
 obtain ⟨n,_,rfl⟩:=mem_map.mp hd
 simp [dep]
theorem IG {xs:List Int} (h:xs.length < 64):sortF [.lst (xs.map D.int)]=some ((sortI xs).map D.int):=by
 rw [CQ,En]
 refine ⟨by simpa using h,?_,by have:=B3 (xs:=xs);omega,.inl ?_⟩
 ·unfold cmAll
  rw [all_eq_true]
  intro a ha
  rw [all_eq_true]
  intro b hb
  obtain ⟨i,_,rfl⟩:=mem_map.mp ha
  obtain ⟨j,_,rfl⟩:=mem_map.mp hb
  rfl
 ·rw [all_eq_true]
  intro a ha
  obtain ⟨i,_,rfl⟩:=mem_map.mp ha
  rfl
theorem vH {α β:Type}{f:α->β}:∀ {l:List α},l.Nodup->(∀ x∈l,∀ y∈l,f x=f y->x=y)->(l.map f).Nodup
 | [],_,_=>nodup_nil
 | x::l,hn,h=>by
  rw [nodup_cons] at hn
  rw [map_cons,nodup_cons]
  refine ⟨λm=>?_,vH hn.2 λy hy z hz=>h y (mem_cons_of_mem _ hy) z (mem_cons_of_mem _ hz)⟩
  obtain ⟨y,hy,e⟩:=mem_map.mp m
  have:=h y (mem_cons_of_mem _ hy) x mem_cons_self e
  subst this
  exact hn.1 hy
noncomputable def nbL (rs:List (Int×Int)) (h:Int):List Int:=(rs.filter λr=>decide (h=r.1)||decide (h=r.2)).map λr=>if r.1=h then r.2 else r.1
noncomputable def nbs (rs:List (Int×Int)) (h:Int):List Int:=sortI (nbL rs h)
section
variable {n:Nat}{rs:List (Int×Int)}{rk:Int->Nat}
theorem Web.nb0 (W:Web n rs rk) (h u:Int):u∈nbL rs h↔Adj rs h u:=by
 unfold nbL Adj
 rw [mem_map]
 constructor
 ·rintro ⟨⟨a,b⟩,hr,e⟩
  rw [mem_filter] at hr
  obtain ⟨hr,c⟩:=hr
  simp only [Bool.or_eq_true,decide_eq_true_eq] at c
  simp only at e
  by_cases q:a=h
  ·rw [if_pos q] at e;subst q;subst e;exact .inl hr
  ·rw [if_neg q] at e;subst e
   rcases c with c | c
   ·exact absurd c.symm q
   ·subst c;exact .inr hr
 ·rintro (m | m)
  ·exact ⟨(h,u),mem_filter.mpr ⟨m,by simp⟩,if_pos rfl⟩
  ·have:=W.lt _ m
   exact ⟨(u,h),mem_filter.mpr ⟨m,by simp⟩,if_neg (show ¬ u=h by have:=this.2.1;simp only at this;omega)⟩
theorem Web.nb0_nodup (W:Web n rs rk) (h:Int):(nbL rs h).Nodup:=by
 unfold nbL
 refine vH (List.Pairwise.filter _ W.nd) λx hx y hy e=>?_
 obtain ⟨a,b⟩:=x
 obtain ⟨c,d⟩:=y
 rw [mem_filter] at hx hy
 have l1:=W.lt _ hx.1
 have l2:=W.lt _ hy.1
 have h1:=hx.2
 have h2:=hy.2
 simp only [Bool.or_eq_true,decide_eq_true_eq] at h1 h2
 simp only at e l1 l2
 rw [Prod.mk.injEq]
 split at e<;>split at e<;>omega
theorem Web.nb (W:Web n rs rk) (h u:Int):u∈nbs rs h↔Adj rs h u:=by
 unfold nbs
 rw [(IZ _).mem_iff]
 exact W.nb0 h u
theorem Web.in_n (W:Web n rs rk){a b:Int} (h:Adj rs a b):0<=a/\a < n/\0<=b/\b < n:=by
 rcases h with h | h
 ·have:=W.lt _ h;simp only at this;omega
 ·have:=W.lt _ h;simp only at this;omega
theorem AC {m:Nat}{l:List Int} (hn:l.Nodup) (h:∀ x∈l,0<=x/\x < m):l.length<=m:=by
 have:=uN l ((range m).map λk:Nat=>(k:Int)) hn λx hx=>by
  obtain ⟨h1,h2⟩:=h x hx
  exact mem_map.mpr ⟨x.toNat,mem_range.mpr (by omega),by omega⟩
 simpa using this
theorem Web.nb_len (W:Web n rs rk) (h:Int):(nbL rs h).length<=n:=AC (W.nb0_nodup h) λx hx=>by
 have:=W.in_n ((W.nb0 h x).mp hx)
 omega
theorem Web.rs_len (W:Web n rs rk):rs.length<=64:=by
 have:=uN rs ((range 64).map λk:Nat=>(((k / 8:Nat):Int),((k % 8:Nat):Int))) W.nd λr hr=>by
  have:=W.lt r hr
  have:=W.n8
  refine mem_map.mpr ⟨r.1.toNat*8+r.2.toNat,mem_range.mpr (by omega),?_⟩
  obtain ⟨a,b⟩:=r
  simp only at *
  rw [Prod.mk.injEq]
  omega
 simpa using this
end
theorem xQ {n:Nat}{rs:List (Int×Int)}{h:Int} (h0:0<=h) (h1:h < n):cvF tf [webD n rs,.int h]=some .non:=by
 refine qh rfl λKE _ k2=>?_
 rw [y6]
 simp [h0,h1]
 exact k2 _ rfl ⟨_,rfl⟩
theorem qM {a b:Int}:deq (.int a) (.int b)=decide (a=b):=by
 rw [deq]
 by_cases h:a=b<;>simp [h]
theorem Dx {a b:Int}:(a == b)=decide (a=b):=by
 by_cases h:a=b<;>simp [h]
theorem JR {a b:Int}:(a == b)=decide (b=a):=by
 by_cases h:b=a
 ·simp [h]
 ·have:¬ a=b:=λz=>h z.symm
  simp [h,this]
theorem IW {h:Int}{r:Int×Int}:inF false (.int h) (pairD r)=some (.bl (decide (h=r.1)||decide (h=r.2))):=by
 unfold inF
 simp [pairD,seqI,deq,dep,depA,JR]
theorem F4 {n:Nat}{rs:List (Int×Int)}{rk:Int->Nat} (W:Web n rs rk){h:Int} (h0:0<=h) (h1:h < n):coF vq [webD n rs,.int h]=some ((nbs rs h).map D.int):=by
 have e1:=xQ (rs:=rs) h0 h1
 have l1:=W.rs_len
 have l2:=W.nb_len h
 have l3:=W.n8
 have e2:sortF [.lst ((nbL rs h).map D.int)]=some ((nbs rs h).map D.int):=IG (by omega)
 refine Kr rfl λKE k1=>?_
 rw [yA]
 refine pR ?_;rintro K hK -
 simp [e1]
 refine hK _ ?_
 simp
 refine qK rs pairD (λr=>decide (h=r.1)||decide (h=r.2)) (λr=>.int (if r.1=h then r.2 else r.1)) ?_
 simp [IW,dep,qM]
 refine ⟨by omega,λa b _ _=>by split<;>intro z<;>first | exact absurd (by assumption) z | exact absurd z (by assumption),?_⟩
 have e3:map (λr=>D.int (if r.1=h then r.2 else r.1)) (filter (λr=>decide (h=r.1)||decide (h=r.2)) rs)=(nbL rs h).map D.int:=by
  unfold nbL
  rw [map_map];rfl
 rw [e3,e2]
 simp
 exact k1 _ ⟨_,rfl⟩
noncomputable def cameD:Option Int->D
 | none=>.non
 | some c=>.int c
theorem BD {u:Int}{c:Option Int}:deq (.int u) (cameD c)=decide (some u=c):=by
 cases c with
 | none=>simp [cameD,deq]
 | some c =>
  simp only [cameD,qM]
  by_cases h:u=c<;>simp [h]
noncomputable def wishD (w:List (Int×Int)):D:=.tup (w.map pairD)
noncomputable def letD (l:List Int):D:=.tup (l.map .int)
structure PairOk (p:Int×Int):Prop where
 lo:0<=p.1
 le:p.1<=p.2
 hi:p.2<=9
structure Wf (n:Nat) (w:List (Int×Int)):Prop where
 len:w.length=n
 all:∀ p∈w,PairOk p
theorem Wf.app {n:Nat}{w:List (Int×Int)} (h:Wf n w){p:Int×Int} (hp:PairOk p):Wf (n+1) (w++[p]):=by
 refine ⟨by simp [h.len],λq hq=>?_⟩
 rcases mem_append.mp hq with h1 | h1
 ·exact h.all q h1
 ·rw [mem_singleton.mp h1];exact hp
@[simp ↓] theorem M' {α:Type}{F:D->Option α}{g:M D}{Γ:Gm}{Q:α->Gm->Prop}:wp (un1 F g) Γ Q↔wp g Γ λd Z=>wp (lft (F d)) Z Q:=by simp [un1]
@[simp] theorem MN {k:Ki}{d:D}:isiF k d=some (.bl (isiB k d)):=rfl
@[simp] theorem Lf {i:Int}:negI (.int i)=some (.int (-i)):=rfl
@[simp] theorem Lx {b:Bool}{d:D}:isNF b d .non=some (.bl (if b then !isN d else isN d)):=rfl
@[simp] theorem L1:isiB .iT .non=false:=rfl
@[simp] theorem Mh {x:Bool}:isiB .iT (.bl x)=true:=rfl
@[simp] theorem LB {x:Int}:isiB .iT (.int x)=true:=rfl
@[simp] theorem MX {x:PySem.Str}:isiB .iT (.str x)=false:=rfl
@[simp] theorem L5 {x:List D}:isiB .iT (.tup x)=false:=rfl
@[simp] theorem Mp {x:List D}:isiB .iT (.lst x)=false:=rfl
@[simp] theorem MV:isiB .sT .non=false:=rfl
@[simp] theorem Mq {x:Bool}:isiB .sT (.bl x)=false:=rfl
@[simp] theorem Ml {x:Int}:isiB .sT (.int x)=false:=rfl
@[simp] theorem LL {x:PySem.Str}:isiB .sT (.str x)=true:=rfl
@[simp] theorem MO {x:List D}:isiB .sT (.tup x)=false:=rfl
@[simp] theorem Lp {x:List D}:isiB .sT (.lst x)=false:=rfl
@[simp] theorem L0:isiB .bT .non=false:=rfl
@[simp] theorem LR {x:Bool}:isiB .bT (.bl x)=true:=rfl
@[simp] theorem Mx {x:Int}:isiB .bT (.int x)=false:=rfl
@[simp] theorem LD {x:PySem.Str}:isiB .bT (.str x)=false:=rfl
@[simp] theorem LJ {x:List D}:isiB .bT (.tup x)=false:=rfl
@[simp] theorem Mw {x:List D}:isiB .bT (.lst x)=false:=rfl
@[simp] theorem L7:isiB .tT .non=false:=rfl
@[simp] theorem Nh {x:Bool}:isiB .tT (.bl x)=false:=rfl
@[simp] theorem Ll {x:Int}:isiB .tT (.int x)=false:=rfl
@[simp] theorem M5 {x:PySem.Str}:isiB .tT (.str x)=false:=rfl
@[simp] theorem Lg {x:List D}:isiB .tT (.tup x)=true:=rfl
@[simp] theorem MU {x:List D}:isiB .tT (.lst x)=false:=rfl
@[simp] theorem MY:isiB .lT .non=false:=rfl
@[simp] theorem LG {x:Bool}:isiB .lT (.bl x)=false:=rfl
@[simp] theorem LC {x:Int}:isiB .lT (.int x)=false:=rfl
@[simp] theorem LV {x:PySem.Str}:isiB .lT (.str x)=false:=rfl
@[simp] theorem Mb {x:List D}:isiB .lT (.tup x)=false:=rfl
@[simp] theorem Le {x:List D}:isiB .lT (.lst x)=true:=rfl
theorem Br {α:Type}{a b:M α}{Γ:Gm}{Q:α->Gm->Prop} (h:wp a Γ Q):wp (altM a b) Γ Q:=by
 obtain ⟨x,aa,e,q⟩:=h
 exact ⟨x,aa,by unfold altM;rw [e],q⟩
theorem Bw {α:Type}{a b:M α}{Γ:Gm}{Q:α->Gm->Prop} (e:a Γ=none) (h:wp b Γ Q):wp (altM a b) Γ Q:=by
 obtain ⟨x,aa,e',q⟩:=h
 exact ⟨x,aa,by unfold altM;rw [e];exact e',q⟩
structure MixN (g:List R->Option (R×List R)) (ds:List D):Prop where
 co:coF g ds=none
 cv:cvF g ds=some .non
theorem wU {g:List R->Option (R×List R)}{ds:List D}{o:Option (List D)} (h:wpF g (ds.map .val) λr _=>r=(match o with | some l=>R.own l | none=>R.val .non)):(∀ l,o=some l->coF g ds=some l)/\(o=none->MixN g ds):=by
 obtain ⟨r,aI,e,hr⟩:=h
 refine ⟨λl z=>?_,λz=>⟨?_,?_⟩⟩
 ·subst z;subst hr;unfold coF;rw [e]
 ·subst z;subst hr;unfold coF;rw [e]
 ·subst z;subst hr;unfold cvF;rw [e]
section
variable {g:List R->Option (R×List R)}{t:M (List D)}{Γ Z:Gm}{ds l:List D}{i:Nat}
theorem vU {α:Type}{F:List D->Option α} (ht:t Γ=some (ds,Z)) (e:F ds=none):fn1 F t Γ=none:=by
 unfold fn1 bnd
 rw [ht]
 show lft (F ds) Z=none
 rw [e];rfl
theorem vW {α:Type}{F:List D->Option α}{x:α} (ht:t Γ=some (ds,Z)) (e:F ds=some x):fn1 F t Γ=some (x,Z):=by
 unfold fn1 bnd
 rw [ht]
 show lft (F ds) Z=_
 rw [e];rfl
theorem zB {α β:Type}{m:M α}{f:α->M β} (h:m Γ=none):bnd m f Γ=none:=by unfold bnd;rw [h]
theorem v6 {α β:Type}{m:M α}{f:α->M β}{x:α} (h:m Γ=some (x,Z)):bnd m f Γ=f x Z:=by unfold bnd;rw [h]
theorem AM {Q:D->Gm->Prop} (ht:t Γ=some (ds,Z)) (e:coF g ds=some l) (q:Q (.lst l) Z):wp (altM (frz (fn1 (coF g) t)) (fn1 (cvF g) t)) Γ Q :=
 Br ⟨_,_,by unfold frz;rw [v6 (vW ht e)];rfl,q⟩
theorem zV {Q:D->Gm->Prop} (ht:t Γ=some (ds,Z)) (e:MixN g ds) (q:Q .non Z):wp (altM (frz (fn1 (coF g) t)) (fn1 (cvF g) t)) Γ Q :=
 Bw (by unfold frz;exact zB (vU ht e.co)) ⟨_,_,vW ht e.cv,q⟩
theorem Js {Q:Fl->Gm->Prop} (ht:t Γ=some (ds,Z)) (e:coF g ds=some l) (q:Q (.rt (.own l)) Z):wp (altM (retO (fn1 (coF g) t)) (retS (fn1 (cvF g) t))) Γ Q :=
 Br ⟨_,_,by unfold retO;rw [v6 (vW ht e)];rfl,q⟩
theorem FV {Q:Fl->Gm->Prop} (ht:t Γ=some (ds,Z)) (e:MixN g ds) (q:Q (.rt (.val .non)) Z):wp (altM (retO (fn1 (coF g) t)) (retS (fn1 (cvF g) t))) Γ Q :=
 Bw (by unfold retO;exact zB (vU ht e.co)) ⟨_,_,by unfold retS;rw [v6 (vW ht e.cv)];rfl,q⟩
end
noncomputable def Wy (N:Int->List Int):Nat->Option Int->Int->Int->Option (List Int)
 | 0,_,_,_=>none
 | k+1,c,h,t=>if h=t then some [h] else (((N h).filter λu=>decide (some u≠c)).findSome? λu=>Wy N k (some h) u t).map (h::·)
theorem wG {α β:Type}{f:α->Option β}{r:β}{x:α}:∀ {l:List α},x∈l->f x=some r->(∀ y∈l,(f y).isSome=true->y=x)->l.findSome? f=some r
 | [],hx,_,_=>by cases hx
 | y::l,hx,hf,hu=>by
  rw [List.findSome?_cons]
  cases e:f y with
  | some r' =>
   have:=hu y mem_cons_self (by rw [e];rfl)
   subst this
   rw [e] at hf
   exact hf
  | none =>
   refine wG ?_ hf λz hz=>hu z (mem_cons_of_mem _ hz)
   rcases mem_cons.mp hx with rfl | hx
   ·rw [e] at hf;cases hf
   ·exact hx
section
variable {n:Nat}{rs:List (Int×Int)}{rk:Int->Nat}{N:Int->List Int}
theorem t5:∀ {k:Nat}{c:Option Int}{h t:Int}{p:List Int},Wy N k c h t=some p->t∈Wl N k c h/\p.length<=k
 | 0,_,_,_,_,e=>by cases e
 | k+1,c,h,t,p,e=>by
  rw [Wy] at e
  by_cases ht:h=t
  ·rw [if_pos ht] at e
   cases e
   subst ht
   exact ⟨uB,by simp⟩
  ·rw [if_neg ht,map_eq_some_iff] at e
   obtain ⟨q,e,rfl⟩:=e
   obtain ⟨u,hu,e⟩:=List.exists_of_findSome?_eq_some e
   rw [mem_filter,decide_eq_true_eq] at hu
   have:=t5 e
   exact ⟨wL.mpr (.inr ⟨u,hu.1,hu.2,this.1⟩),by simp;exact this.2⟩
theorem Web.ext (W:Web n rs rk) (hN:∀ v u,u∈N v↔Adj rs v u):∀ (k:Nat) (c:Option Int) (h v u:Int) (p:List Int),(∀ x,c=some x->Adj rs x h)->mu rk c h < k->Wy N k c h v=some p->u∈N v->some u≠c->u∉p->Wy N k c h u=some (p++[u])
 | 0,_,_,_,_,_,_,_,e,_,_,_=>by cases e
 | k+1,c,h,v,u,p,hc,hm,e,hu,uc,up=>by
  have uni:∀ x y,x∈N h->y∈N h->u∈Wl N k (some h) x->u∈Wl N k (some h) y->x=y:=λx y hx hy=>W.apart hN ((hN h x).mp hx) ((hN h y).mp hy)
  rw [Wy] at e
  by_cases hv:h=v
  ·rw [if_pos hv] at e
   cases e
   subst hv
   have uh:¬ h=u:=λz=>up (by rw [z];simp)
   have au:=(hN h u).mp hu
   have lt:=W.mu_lt hc au uc
   rw [Wy,if_neg uh]
   have one:Wy N k (some h) u u=some [u]:=by
    cases k with
    | zero=>omega
    | succ k=>rw [Wy,if_pos rfl]
   have:(((N h).filter λu=>decide (some u≠c)).findSome? λx=>Wy N k (some h) x u)=some [u]:=wG (x:=u) (mem_filter.mpr ⟨hu,by simpa using uc⟩) one λy hy s=>by
    obtain ⟨q,s⟩:=Option.isSome_iff_exists.mp s
    exact uni y u (mem_filter.mp hy).1 hu (t5 s).1 uB
   rw [this];rfl
  ·rw [if_neg hv,map_eq_some_iff] at e
   obtain ⟨q,e,rfl⟩:=e
   obtain ⟨x,hx,e⟩:=List.exists_of_findSome?_eq_some e
   have dX:=hx
   rw [mem_filter,decide_eq_true_eq] at dX
   have ax:=(hN h x).mp dX.1
   have lt:=W.mu_lt hc ax dX.2
   have uh:u≠h:=λz=>up (by rw [z];simp)
   have uq:u∉q:=λz=>up (mem_cons_of_mem _ z)
   have ih:=W.ext hN k (some h) x v u q (λy z=>by cases z;exact ax) (by omega) e hu (λz=>uh (by cases z;rfl)) uq
   rw [Wy,if_neg (λz=>uh z.symm)]
   have:(((N h).filter λu=>decide (some u≠c)).findSome? λx=>Wy N k (some h) x u)=some (q++[u]):=wG hx ih λy hy s=>by
    obtain ⟨q,s⟩:=Option.isSome_iff_exists.mp s
    exact uni y x (mem_filter.mp hy).1 dX.1 (t5 s).1 (t5 ih).1
   rw [this];rfl
end
def St (S:Int->Int->Prop):List Int->Prop
 | []=>True
 | [_]=>True
 | a::b::r=>S a b/\St S (b::r)
theorem St.snoc {S:Int->Int->Prop}:∀ {q:List Int}{v u:Int},St S (q++[v])->S v u->St S (q++[v]++[u])
 | [],v,u,_,h=>⟨h,trivial⟩
 | [a],v,u,h1,h=>⟨h1.1,h,trivial⟩
 | a::b::q,v,u,h1,h=>⟨h1.1,St.snoc (q:=b::q) h1.2 h⟩
theorem St.init {S:Int->Int->Prop}:∀ {q:List Int}{v u:Int},St S (q++[v]++[u])->St S (q++[v])/\S v u
 | [],v,u,h=>⟨trivial,h.1⟩
 | [a],v,u,h=>⟨⟨h.1,trivial⟩,h.2.1⟩
 | a::b::q,v,u,h=>by
  have:=St.init (q:=b::q) h.2
  exact ⟨⟨h.1,this.1⟩,this.2⟩
theorem St.mono {S T:Int->Int->Prop} (i:∀ a b,S a b->T a b):∀ {q:List Int},St S q->St T q
 | [],_=>trivial
 | [_],_=>trivial
 | a::b::r,h=>⟨i _ _ h.1,St.mono i (q:=b::r) h.2⟩
theorem St.rev {S:Int->Int->Prop} (sy:∀ a b,S a b->S b a):∀ {q:List Int},St S q->St S q.reverse
 | [],_=>trivial
 | [_],_=>trivial
 | a::b::r,h=>by
  have:=St.rev sy (q:=b::r) h.2
  rw [List.reverse_cons] at this
  rw [List.reverse_cons,List.reverse_cons]
  exact St.snoc this (sy _ _ h.1)
section
variable {n:Nat}{rs:List (Int×Int)}{rk:Int->Nat}{N:Int->List Int}
theorem CU:∀ {k:Nat}{c:Option Int}{h t:Int}{p:List Int},Wy N k c h t=some p->∀ v∈p,v∈Wl N k c h
 | 0,_,_,_,_,e=>by cases e
 | k+1,c,h,t,p,e=>by
  rw [Wy] at e
  intro v hv
  by_cases ht:h=t
  ·rw [if_pos ht] at e
   cases e
   rw [mem_singleton.mp hv]
   exact uB
  ·rw [if_neg ht,map_eq_some_iff] at e
   obtain ⟨q,e,rfl⟩:=e
   obtain ⟨u,hu,e⟩:=List.exists_of_findSome?_eq_some e
   rw [mem_filter,decide_eq_true_eq] at hu
   rcases mem_cons.mp hv with rfl | hv
   ·exact uB
   ·exact wL.mpr (.inr ⟨u,hu.1,hu.2,CU e v hv⟩)
theorem qX:∀ {k:Nat}{c:Option Int}{h t:Int}{p:List Int},Wy N k c h t=some p->∃ q,p=h::q/\∃ r,p=r++[t]
 | 0,_,_,_,_,e=>by cases e
 | k+1,c,h,t,p,e=>by
  rw [Wy] at e
  by_cases ht:h=t
  ·rw [if_pos ht] at e
   cases e
   exact ⟨[],rfl,[],by rw [ht];rfl⟩
  ·rw [if_neg ht,map_eq_some_iff] at e
   obtain ⟨q,e,rfl⟩:=e
   obtain ⟨u,hu,e⟩:=List.exists_of_findSome?_eq_some e
   obtain ⟨_,_,r,rfl⟩:=qX e
   exact ⟨_,rfl,h::r,rfl⟩
theorem sK (hN:∀ v u,u∈N v↔Adj rs v u):∀ {k:Nat}{c:Option Int}{h t:Int}{p:List Int},Wy N k c h t=some p->St (Adj rs) p
 | 0,_,_,_,_,e=>by cases e
 | k+1,c,h,t,p,e=>by
  rw [Wy] at e
  by_cases ht:h=t
  ·rw [if_pos ht] at e
   cases e
   trivial
  ·rw [if_neg ht,map_eq_some_iff] at e
   obtain ⟨q,e,rfl⟩:=e
   obtain ⟨u,hu,e⟩:=List.exists_of_findSome?_eq_some e
   rw [mem_filter,decide_eq_true_eq] at hu
   obtain ⟨q',rfl,_⟩:=qX e
   exact ⟨(hN h u).mp hu.1,sK hN e⟩
theorem Web.wy_nodup (W:Web n rs rk) (hN:∀ v u,u∈N v↔Adj rs v u):∀ {k:Nat}{c:Option Int}{h t:Int}{p:List Int},Wy N k c h t=some p->p.Nodup
 | 0,_,_,_,_,e=>by cases e
 | k+1,c,h,t,p,e=>by
  rw [Wy] at e
  by_cases ht:h=t
  ·rw [if_pos ht] at e
   cases e
   exact nodup_cons.mpr ⟨by simp,nodup_nil⟩
  ·rw [if_neg ht,map_eq_some_iff] at e
   obtain ⟨q,e,rfl⟩:=e
   obtain ⟨u,hu,e⟩:=List.exists_of_findSome?_eq_some e
   rw [mem_filter,decide_eq_true_eq] at hu
   exact nodup_cons.mpr ⟨λm=>W.back hN ((hN h u).mp hu.1) (CU e h m),W.wy_nodup hN e⟩
theorem Web.uni (W:Web n rs rk) (hN:∀ v u,u∈N v↔Adj rs v u){k:Nat} (hk:18 < k){h:Int}:∀ (m:Nat) (q:List Int) (v:Int),q.length=m->(∃ r,q++[v]=h::r)->St (Adj rs) (q++[v])->(q++[v]).Nodup->Wy N k none h v=some (q++[v]):=by
 intro m
 induction m with
 | zero =>
  intro q v hq ⟨r,e⟩ _ _
  have:=length_eq_zero_iff.mp hq
  subst this
  cases e
  obtain ⟨k,rfl⟩:∃ j,k=j+1:=⟨k - 1,by omega⟩
  rw [Wy,if_pos rfl]
  rfl
 | succ m ih =>
  intro q u hq ⟨r,e⟩ st nd
  obtain ⟨q,v,rfl⟩:∃ q' v,q=q'++[v]:=⟨_,_,(List.dropLast_concat_getLast (by intro z;rw [z] at hq;cases hq)).symm⟩
  obtain ⟨s1,s2⟩:=st.init
  have ma:=nodup_append.mp nd
  have i:=ih q v (by simpa using hq) (by
   cases q with
   | nil=>cases e;exact ⟨[],rfl⟩
   | cons a q=>cases e;exact ⟨_,rfl⟩) s1 ma.1
  exact W.ext hN k none h v u _ (λx z=>by cases z) (by simp only [mu];omega) i ((hN v u).mpr s2) (by simp) λm=>ma.2.2 u m u (mem_singleton.mpr rfl) rfl
theorem Web.uni' (W:Web n rs rk) (hN:∀ v u,u∈N v↔Adj rs v u){k:Nat} (hk:18 < k){h t:Int}{p q r:List Int} (e1:p=h::q) (e2:p=r++[t]) (st:St (Adj rs) p) (nd:p.Nodup):Wy N k none h t=some p:=by
 subst e2
 exact W.uni hN hk r.length r t rfl ⟨q,e1⟩ st nd
theorem Web.wy_rev (W:Web n rs rk) (hN:∀ v u,u∈N v↔Adj rs v u){k:Nat} (hk:18 < k){h t:Int}{p:List Int} (e:Wy N k none h t=some p):Wy N k none t h=some p.reverse:=by
 obtain ⟨q,e1,r,e2⟩:=qX e
 refine W.uni' hN hk (q:=r.reverse) (r:=q.reverse) (by rw [e2];simp) (by rw [e1];simp) ((sK hN e).rev λa b h=>h.symm) ?_
 exact (List.reverse_perm p).symm.nodup (W.wy_nodup hN e)
theorem Web.sub (W:Web n rs rk){aI:List (Int×Int)} (hs:∀ r∈aI,r∈rs) (nd:aI.Nodup):Web n aI rk:=by
 have a:∀ a b,Adj aI a b->Adj rs a b:=λa b h=>h.elim (λh=>.inl (hs _ h)) λh=>.inr (hs _ h)
 exact ⟨W.n1,W.n8,λr hr=>W.lt r (hs r hr),nd,λx y h=>W.ne x y (a _ _ h),λx y h=>W.rk8 x y (a _ _ h),λv x y h1 h2=>W.one v x y (a _ _ h1) (a _ _ h2)⟩
theorem Web.only (W:Web n rs rk) (hN:∀ v u,u∈N v↔Adj rs v u){aI:List (Int×Int)}{N':Int->List Int} (W':Web n aI rk) (jT:∀ v u,u∈N' v↔Adj aI v u) (hs:∀ r∈aI,r∈rs){k:Nat} (hk:18 < k){a b:Int} (ab:Adj rs a b) (ne:a≠b){p:List Int} (e:Wy N' k none a b=some p):Adj aI a b:=by
 have sub:∀ a b,Adj aI a b->Adj rs a b:=λa b h=>h.elim (λh=>.inl (hs _ h)) λh=>.inr (hs _ h)
 obtain ⟨q,e1,r,e2⟩:=qX e
 have h1:=W.uni' hN hk e1 e2 ((sK jT e).mono sub) (W'.wy_nodup jT e)
 have h2:=W.uni' hN hk (h:=a) (t:=b) (p:=[a,b]) (q:=[b]) (r:=[a]) rfl rfl ⟨ab,trivial⟩ (by simp [ne])
 rw [h1] at h2
 cases h2
 exact (sK jT e).1
structure Wb0 (n:Nat) (rs:List (Int×Int)) (rk:Int->Nat):Prop where
 n1:1<=n
 n8:n<=8
 lt:∀ r∈rs,0<=r.1/\r.1 < r.2/\r.2 < n
 nd:rs.Nodup
 ne:∀ a b,Adj rs a b->rk a≠rk b
 one:∀ v a b,Adj rs v a->Adj rs v b->rk a < rk v->rk b < rk v->a=b
noncomputable def lows (n:Nat) (rk:Int->Nat) (v:Int):Nat:=((range n).filter λu:Nat=>decide (rk u < rk v)).length
theorem yY {α:Type}{p q:α->Bool}:∀ {l:List α}{x:α},(∀ y,p y=true->q y=true)->x∈l->q x=true->p x=false->(l.filter p).length < (l.filter q).length
 | [],_,_,h,_,_=>by cases h
 | y::l,x,i,h,hq,hp=>by
  have le:∀ l:List α,(l.filter p).length<=(l.filter q).length:=λl=>by
   induction l with
   | nil=>exact le_refl _
   | cons z l ih =>
    by_cases c:p z=true
    ·rw [filter_cons_of_pos c,filter_cons_of_pos (i z c)];simpa using ih
    ·rw [filter_cons_of_neg c]
     by_cases d:q z=true
     ·rw [filter_cons_of_pos d,length_cons];omega
     ·rw [filter_cons_of_neg d];exact ih
  rcases mem_cons.mp h with rfl | h
  ·rw [filter_cons_of_neg (by simp [hp]),filter_cons_of_pos hq,length_cons]
   have:=le l
   omega
  ·have:=yY i h hq hp
   by_cases c:p y=true
   ·rw [filter_cons_of_pos c,filter_cons_of_pos (i y c)];simpa using this
   ·rw [filter_cons_of_neg c]
    by_cases d:q y=true
    ·rw [filter_cons_of_pos d,length_cons];omega
    ·rw [filter_cons_of_neg d];exact this
theorem Wb0.web (W:Wb0 n rs rk):Web n rs (lows n rk):=by
 have df:∀ a b,Adj rs a b->∃ x:Nat,x < n/\a=(x:Int):=λa b h=>by
  rcases h with h | h
  ·have:=W.lt _ h;simp only at this;exact ⟨a.toNat,by omega,by omega⟩
  ·have:=W.lt _ h;simp only at this;exact ⟨a.toNat,by omega,by omega⟩
 have up:∀ a b,(∃ x:Nat,x < n/\a=(x:Int))->rk a < rk b->lows n rk a < lows n rk b:=λa b ⟨x,hx,e⟩ l=>by
  subst e
  refine yY (x:=x) (λy hy=>?_) (mem_range.mpr hx) (by simpa using l) (by simp)
  simp only [decide_eq_true_eq] at hy ⊢
  omega
 have dn:∀ a b,(∃ x:Nat,x < n/\b=(x:Int))->lows n rk a < lows n rk b->rk a < rk b:=λa b hb l=>by
  rcases lt_trichotomy (rk a) (rk b) with z | z | z
  ·exact z
  ·unfold lows at l;rw [z] at l;omega
  ·have:=up b a hb z;omega
 refine ⟨W.n1,W.n8,W.lt,W.nd,λa b h e=>?_,λa b h=>?_,λv a b h1 h2 l1 l2=>W.one v a b h1 h2 (dn _ _ (df _ _ h1) l1) (dn _ _ (df _ _ h1) l2)⟩
 ·have:=W.ne a b h
  rcases Nat.lt_or_gt_of_ne this with z | z
  ·have:=up a b (df _ _ h) z;omega
  ·have:=up b a (df _ _ h.symm) z;omega
 ·obtain ⟨x,hx,rfl⟩:=df a b h
  have:lows n rk (x:Int) < ((range n).filter λ_:Nat=>true).length:=yY (x:=x) (λ_ _=>rfl) (mem_range.mpr hx) rfl (by simp)
  rw [List.filter_eq_self.mpr (λ_ _=>rfl),length_range] at this
  have:=W.n8
  omega
noncomputable def far (N:Int->List Int) (b v:Int):Nat:=((Wy N 20 none b v).getD []).length
theorem Web.wy_pre (W:Web n rs rk) (hN:∀ v u,u∈N v↔Adj rs v u){k:Nat} (hk:18 < k){h t u:Int}{p:List Int} (e:Wy N k none h t=some p) (hu:u∈p):∃ q s,Wy N k none h u=some q/\p=q++s:=by
 obtain ⟨a,b,rfl⟩:=List.append_of_mem hu
 obtain ⟨q,e1,_⟩:=qX e
 have st:∀ (l m:List Int),St (Adj rs) (l++m)->St (Adj rs) l:=by
  intro l
  induction l with
  | nil=>intro _ _;trivial
  | cons x l ih =>
   intro m h
   cases l with
   | nil=>trivial
   | cons y l=>exact ⟨h.1,ih m h.2⟩
 have e3:a++u::b=(a++[u])++b:=by simp
 have s1:=sK hN e
 have s2:=W.wy_nodup hN e
 rw [e3] at s1 s2
 refine ⟨a++[u],b,W.uni' hN hk (q:=(a++[u]).tail) (r:=a) ?_ rfl (st _ _ s1) (nodup_append.mp s2).1,e3⟩
 cases a with
 | nil=>cases e1;rfl
 | cons x a=>cases e1;rfl
theorem Web.wy_near (W:Web n rs rk) (hN:∀ v u,u∈N v↔Adj rs v u){k:Nat} (hk:18 < k){h v u:Int}{p:List Int} (e:Wy N k none h v=some p) (a:Adj rs v u):Wy N k none h u=some (p++[u])\/∃ q,Wy N k none h u=some q/\p=q++[v]:=by
 by_cases m:u∈p
 ·obtain ⟨q,s,e1,e2⟩:=W.wy_pre hN hk e m
  refine .inr ⟨q,e1,?_⟩
  by_cases m2:v∈q
  ·obtain ⟨q',s',e3,e4⟩:=W.wy_pre hN hk e1 m2
   rw [e] at e3
   cases e3
   have l1:s.length=0:=by have h1:=congrArg length e4;have h2:=congrArg length e2;rw [length_append] at h1 h2;omega
   rw [length_eq_zero_iff.mp l1,append_nil] at e2
   subst e2
   obtain ⟨_,_,r,z⟩:=qX e
   obtain ⟨_,_,r',z'⟩:=qX e1
   rw [z] at z'
   have:=(List.append_inj' z' rfl).2
   cases this
   exact absurd rfl (W.ne _ _ a)
  ·have:=W.ext hN k none h u v q (λx z=>by cases z) (by simp only [mu];omega) e1 ((hN u v).mpr a.symm) (by simp) m2
   rw [e] at this
   cases this
   rfl
 ·exact .inl (W.ext hN k none h v u p (λx z=>by cases z) (by simp only [mu];omega) e ((hN v u).mpr a) (by simp) m)
theorem Web.more (W:Web n rs rk) (hN:∀ v u,u∈N v↔Adj rs v u){a b:Int} (h0:0<=a) (h1:a < b) (h2:b < n) (no:Wy N 20 none b a=none){aI:List (Int×Int)} (nd:aI.Nodup) (hm:∀ r,r∈aI↔r=(a,b)\/r∈rs):∃ ez,Web n aI ez:=by
 obtain ⟨C,hC⟩:∃ C:Int->Prop,C=λv=>∃ p,Wy N 20 none b v=some p:=⟨_,rfl⟩
 have cb:C b:=by rw [hC];exact ⟨_,by rw [Wy,if_pos rfl]⟩
 have ca:¬ C a:=by rw [hC];rintro ⟨p,e⟩;rw [no] at e;cases e
 have cs:∀ v u,Adj rs v u->C v->C u:=λv u h c=>by
  rw [hC] at c ⊢
  obtain ⟨p,e⟩:=c
  rcases W.wy_near hN (by omega) e h with z | ⟨q,z,_⟩
  ·exact ⟨_,z⟩
  ·exact ⟨_,z⟩
 have bQ:∀ v u,Adj rs v u->¬ C v->¬ C u:=λv u h c z=>c (cs u v h.symm z)
 have fb:far N b b=1:=by unfold far;rw [Wy,if_pos rfl];rfl
 have f1:∀ v,C v->1<=far N b v:=λv c=>by
  rw [hC] at c
  obtain ⟨p,e⟩:=c
  obtain ⟨q,rfl,_⟩:=qX e
  unfold far;rw [e];simp
 have fn:∀ v u,C v->Adj rs v u->(far N b u=far N b v+1)\/far N b v=far N b u+1:=λv u c h=>by
  rw [hC] at c
  obtain ⟨p,e⟩:=c
  rcases W.wy_near hN (by omega) e h with z | ⟨q,z,y⟩
  ·left;unfold far;rw [z,e];simp
  ·right;unfold far;rw [z,e,y];simp
 have fu:∀ v x y,C v->Adj rs v x->Adj rs v y->far N b x < far N b v->far N b y < far N b v->x=y:=λv x y c hx hy lx ly=>by
  rw [hC] at c
  obtain ⟨p,e⟩:=c
  rcases W.wy_near hN (by omega) e hx with z | ⟨q,z,e1⟩
  ·unfold far at lx;rw [z,e] at lx;simp at lx;omega
  rcases W.wy_near hN (by omega) e hy with z' | ⟨q',z',e2⟩
  ·unfold far at ly;rw [z',e] at ly;simp at ly;omega
  rw [e1] at e2
  have:=(List.append_inj' e2 rfl).1
  subst this
  obtain ⟨_,_,r,k1⟩:=qX z
  obtain ⟨_,_,r',k2⟩:=qX z'
  rw [k1] at k2
  have:=(List.append_inj' k2 rfl).2
  cases this
  rfl
 have bn:∀ u,Adj rs b u->far N b b < far N b u:=λu h=>by
  rcases fn b u cb h with z | z
  ·omega
  ·have:=f1 u (cs b u h cb);omega
 have ad:∀ x y,Adj aI x y↔Adj rs x y\/(x=a/\y=b)\/(x=b/\y=a):=λx y=>by
  unfold Adj
  rw [hm,hm,Prod.mk.injEq,Prod.mk.injEq]
  constructor
  ·rintro ((⟨h,h'⟩ | h) | (⟨h,h'⟩ | h))
   ·exact .inr (.inl ⟨h,h'⟩)
   ·exact .inl (.inl h)
   ·exact .inr (.inr ⟨h',h⟩)
   ·exact .inl (.inr h)
  ·rintro ((h | h) | ⟨h,h'⟩ | ⟨h,h'⟩)
   ·exact .inl (.inr h)
   ·exact .inr (.inr h)
   ·exact .inl (.inl ⟨h,h'⟩)
   ·exact .inr (.inl ⟨h',h⟩)
 let ez:Int->Nat:=λv=>@ite _ (C v) (Classical.propDecidable _) (rk a+far N b v) (rk v)
 have r1:∀ v,C v->ez v=rk a+far N b v:=λv c=>if_pos c
 have r0:∀ v,¬ C v->ez v=rk v:=λv c=>if_neg c
 refine ⟨_,Wb0.web (rk:=ez) ⟨W.n1,W.n8,λr hr=>?_,nd,λx y h=>?_,λv x y hx hy lx ly=>?_⟩⟩
 ·rcases (hm r).mp hr with rfl | hr
  ·exact ⟨h0,h1,h2⟩
  ·exact W.lt r hr
 ·rcases (ad x y).mp h with h | ⟨rfl,rfl⟩ | ⟨rfl,rfl⟩
  ·by_cases c:C x
   ·rw [r1 x c,r1 y (cs x y h c)]
    rcases fn x y c h with z | z<;>omega
   ·rw [r0 x c,r0 y (bQ x y h c)]
    exact W.ne x y h
  ·rw [r0 _ ca,r1 _ cb,fb];omega
  ·rw [r0 _ ca,r1 _ cb,fb];omega
 ·rcases (ad v x).mp hx with hx | ⟨rfl,rfl⟩ | ⟨rfl,rfl⟩<;>rcases (ad v y).mp hy with hy | ⟨fx,rfl⟩ | ⟨fx,rfl⟩
  ·by_cases c:C v
   ·rw [r1 v c,r1 x (cs v x hx c)] at lx
    rw [r1 v c,r1 y (cs v y hy c)] at ly
    exact fu v x y c hx hy (by omega) (by omega)
   ·rw [r0 v c,r0 x (bQ v x hx c)] at lx
    rw [r0 v c,r0 y (bQ v y hy c)] at ly
    exact W.one v x y hx hy lx ly
  ·subst fx
   rw [r0 _ ca,r1 _ cb,fb] at ly;omega
  ·subst fx
   have:=bn x hx
   rw [r1 v cb,r1 x (cs v x hx cb)] at lx
   omega
  ·rw [r0 _ ca,r1 _ cb,fb] at lx;omega
  ·rfl
  ·rw [r0 _ ca,r1 _ cb,fb] at lx;omega
  ·have:=bn y hy
   rw [r1 v cb,r1 y (cs v y hy cb)] at ly
   omega
  ·subst fx;exact absurd cb ca
  ·rfl
end
noncomputable def wyR (o:Option (List Int)):R:=match o.map (·.map D.int) with
 | some l=>.own l
 | none=>.val .non
theorem JW {p:Int->Bool}{f:Int->Option (List Int)}{l:List Int}{i:Nat}{u:Int}{q:List Int} (hu:l[i]?=some u) (hp:p u=true) (hf:f u=some q) (hn:∀ x∈(l.take i).filter p,f x=none):(l.filter p).findSome? f=some q:=by
 obtain ⟨hi,hu⟩:=List.getElem?_eq_some_iff.mp hu
 have e:l=l.take i++u::l.drop (i+1):=by
  rw [← hu,← drop_eq_getElem_cons hi,List.take_append_drop]
 rw [e,List.filter_append,List.findSome?_append,List.findSome?_eq_none_iff.mpr hn,filter_cons_of_pos hp,List.findSome?_cons,hf]
 rfl
theorem KB {n:Nat}{rs:List (Int×Int)}{rk:Int->Nat} (W:Web n rs rk):∀ (k:Nat) (c:Option Int) (h t:Int),k<=100->0<=h->h < n->(∀ x,c=some x->Adj rs x h)->mu rk c h < k->wpF (rS k) ([webD n rs,cameD c,D.int h,D.int t].map .val) λr _=>r=wyR (Wy (nbs rs) k c h t):=by
 intro k
 induction k with
 | zero=>intro c h t _ _ _ _ hm;omega
 | succ k ih =>
  intro c h t oQ h0 h1 hc hm
  have e1:=F4 W h0 h1
  rw [rS]
  refine sw rfl λKE hE _=>?_
  rw [vC]
  rw [Wy] at hE
  refine pR ?_;rintro K hK hR
  by_cases ht:h=t
  ·rw [if_pos ht] at hE
   subst ht
   simp [dep,qM]
   exact hR _ _ (hE _ _ ⟨_,rfl,rfl⟩)
  ·rw [if_neg ht] at hE
   simp [dep,qM,ht]
   refine hK _ ?_
   refine pR ?_;rintro K hK md
   simp [e1]
   refine sf (J:=λi Γ=>∃ x4 x5,(∀ u∈((nbs rs h).take i).filter λu=>decide (some u≠c),Wy (nbs rs) k (some h) u t=none)/\Γ=[some (.val (webD n rs)),some (.val (cameD c)),some (.val (.int h)),some (.val (.int t)),x4,x5]) ⟨none,none,by simp,rfl⟩ ?_ ?_
   ·rintro i d Γ hd ⟨x4,x5,no,rfl⟩ KL cQ - - jU
    rw [getElem?_map,map_eq_some_iff] at hd
    obtain ⟨u,hu,rfl⟩:=hd
    have tk:(nbs rs h).take (i+1)=(nbs rs h).take i++[u]:=by rw [take_succ,hu];rfl
    have au:=(W.nb h u).mp (mem_of_getElem? hu)
    have un:=W.in_n au
    refine ⟨_,_,rfl,?_⟩
    show wp _ [some (.val (webD n rs)),some (.val (cameD c)),some (.val (.int h)),some (.val (.int t)),some (.val (.int u)),x5] _
    by_cases uc:some u=c
    ·simp [dep,BD,uc]
     refine cQ _ ⟨_,_,λx hx=>no x ?_,rfl⟩
     rw [tk,List.filter_append] at hx
     simpa [uc] using hx
    ·have lt:=W.mu_lt hc au uc
     have w1:=ih (some h) u t (by omega) (by omega) (by omega) (λx z=>by cases z;exact au) (by omega)
     obtain ⟨m1,m2⟩:=wU w1
     simp [dep,BD,uc]
     refine pR ?_;rintro K2 eM -
     cases e:Wy (nbs rs) k (some h) u t with
     | some q =>
      have e3:=m1 _ (by rw [e];rfl)
      have lq:=(t5 e).2
      simp only [zt]
      refine AM rfl e3 ?_
      refine ⟨by simp,eM _ ?_⟩;clear eM
      show wp _ [some (.val (webD n rs)),some (.val (cameD c)),some (.val (.int h)),some (.val (.int t)),some (.val (.int u)),some (.val (.lst (q.map D.int)))] _
      simp [isN]
      refine ⟨by omega,jU _ _ (md _ _ (hE _ _ ⟨_,rfl,?_⟩))⟩
      rw [JW hu (by simpa using uc) e no]
      rfl
     | none =>
      have e3:=m2 (by rw [e];rfl)
      simp only [zt]
      refine zV rfl e3 ?_
      refine ⟨by simp,eM _ ?_⟩;clear eM
      show wp _ [some (.val (webD n rs)),some (.val (cameD c)),some (.val (.int h)),some (.val (.int t)),some (.val (.int u)),some (.val .non)] _
      simp [isN]
      refine cQ _ ⟨_,_,λx hx=>?_,rfl⟩
      rw [tk,List.filter_append] at hx
      rcases mem_append.mp hx with hx | hx
      ·exact no x hx
      ·rw [mem_singleton.mp (mem_filter.mp hx).1];exact e
   ·rintro Γ ⟨x4,x5,no,rfl⟩
    rw [length_map,List.take_length] at no
    refine hK _ ?_
    refine ⟨_,_,rfl,?_⟩
    refine hE _ _ ⟨_,rfl,?_⟩
    rw [List.findSome?_eq_none_iff.mpr no]
    rfl
theorem Gk {n:Nat}{rs:List (Int×Int)}{rk:Int->Nat} (W:Web n rs rk){a b:Int} (a0:0<=a) (a1:a < n) (b0:0<=b) (b1:b < n):wpF sA ([webD n rs,D.int a,D.int b].map .val) λr _=>r=wyR (Wy (nbs rs) 21 none a b):=by
 have e1:=xQ (rs:=rs) a0 a1
 have e2:=xQ (rs:=rs) b0 b1
 have w:=KB W 21 none a b (by omega) a0 a1 (λx z=>by cases z) (by simp [mu])
 change wpF (rS 21) ([webD n rs,D.non,D.int a,D.int b].map .val) _ at w
 obtain ⟨m1,m2⟩:=wU w
 refine sw rfl λKE hE _=>?_
 rw [wd]
 refine pR ?_;rintro K hK -
 simp [e1]
 refine hK _ ?_
 refine pR ?_;rintro K hK -
 simp [e2]
 refine hK _ ?_
 cases e:Wy (nbs rs) 21 none a b with
 | some q =>
  rw [e] at hE
  exact Js rfl (m1 _ (by rw [e];rfl)) (hE _ _ ⟨_,rfl,rfl⟩)
 | none =>
  rw [e] at hE
  exact FV rfl (m2 (by rw [e];rfl)) (hE _ _ ⟨_,rfl,rfl⟩)
noncomputable def mkR (a b:Int):Int×Int:=(if b < a then b else a,if b > a then b else a)
theorem vT {a b:Int} (h:a≠b):(mkR a b=(a,b)/\a < b)\/(mkR a b=(b,a)/\b < a):=by
 unfold mkR
 by_cases l:b < a
 ·exact .inr ⟨by rw [if_pos l,if_neg (by omega)],l⟩
 ·exact .inl ⟨by rw [if_neg l,if_pos (by omega)],by omega⟩
structure LOk (m:Nat) (L:List (Nat×Nat)):Prop where
 inc:L.Pairwise λp q=>p.1 < q.1
 ok:∀ q∈L,1<=q.1/\q.1 < m/\q.2 < q.1
theorem Bo {L:List (Nat×Nat)} (h:L.Pairwise λp q=>p.1 < q.1){p q:Nat×Nat} (hp:p∈L) (hq:q∈L) (e:p.1=q.1):p=q:=by
 induction L with
 | nil=>cases hp
 | cons x L ih =>
  rw [pairwise_cons] at h
  rcases mem_cons.mp hp with gC | gC<;>rcases mem_cons.mp hq with cW | cW
  ·rw [gC,cW]
  ·have:=h.1 q cW;rw [← gC] at this;omega
  ·have:=h.1 p gC;rw [← cW] at this;omega
  ·exact ih h.2 gC cW
noncomputable def atO (os:List Int) (k:Nat):Int:=os.getD k 0
noncomputable def roadsO (os:List Int) (L:List (Nat×Nat)):List (Int×Int):=L.map λq=>mkR (atO os q.1) (atO os q.2)
section
variable {os:List Int}{m:Nat}{L:List (Nat×Nat)}
theorem v7 {k:Nat} (h:k < os.length):atO os k=os[k]:=by
 unfold atO
 rw [getD_eq_getElem?_getD,getElem?_eq_getElem h];rfl
theorem rA (nd:os.Nodup){k:Nat} (h:k < os.length):os.idxOf (atO os k)=k:=by
 rw [v7 h];exact nd.idxOf_getElem k h
theorem rH (nd:os.Nodup){j k:Nat} (hj:j < os.length) (hk:k < os.length) (e:atO os j=atO os k):j=k:=by
 have h1:=rA nd hj
 rw [e,rA nd hk] at h1
 exact h1.symm
theorem vd (hl:os.length=m) (nd:os.Nodup) (ok:LOk m L){rs:List (Int×Int)} (hp:rs.Perm (roadsO os L)){x y:Int} (h:Adj rs x y):∃ q∈L,(x=atO os q.1/\y=atO os q.2)\/(x=atO os q.2/\y=atO os q.1):=by
 have go:∀ a b,(a,b)∈rs->∃ q∈L,(a=atO os q.1/\b=atO os q.2)\/(a=atO os q.2/\b=atO os q.1):=λa b h=>by
  rw [hp.mem_iff] at h
  obtain ⟨q,hq,e⟩:=mem_map.mp h
  have o:=ok.ok q hq
  have ne:atO os q.1≠atO os q.2:=λz=>by have:=rH nd (by omega) (by omega) z;omega
  refine ⟨q,hq,?_⟩
  rcases vT ne with ⟨e1,_⟩ | ⟨e1,_⟩<;>rw [e1] at e<;>cases e
  ·exact .inl ⟨rfl,rfl⟩
  ·exact .inr ⟨rfl,rfl⟩
 rcases h with h | h
 ·exact go x y h
 ·obtain ⟨q,hq,z⟩:=go y x h
  exact ⟨q,hq,z.elim (λz=>.inr ⟨z.2,z.1⟩) λz=>.inl ⟨z.2,z.1⟩⟩
theorem Ew (hl:os.length=m) (nd:os.Nodup) (rng:∀ x∈os,0<=x/\x < m) (ok:LOk m L) (m1:1<=m) (m8:m<=8){rs:List (Int×Int)} (hp:rs.Perm (roadsO os L)):Web m rs λv=>os.idxOf v:=by
 have df:∀ k,k < m->0<=atO os k/\atO os k < m:=λk hk=>by
  rw [v7 (by omega)];exact rng _ (getElem_mem _)
 have nq:∀ q∈L,atO os q.1≠atO os q.2:=λq hq z=>by
  have o:=ok.ok q hq
  have:=rH nd (by omega) (by omega) z
  omega
 refine ⟨m1,m8,λr hr=>?_,hp.symm.nodup (vH (ok.inc.imp λh e=>by rw [e] at h;exact absurd h (lt_irrefl _)) λp jV q jW e=>?_),λa b h=>?_,λa b h=>?_,λv a b ha hb la lb=>?_⟩
 ·rw [hp.mem_iff] at hr
  obtain ⟨q,hq,rfl⟩:=mem_map.mp hr
  have o:=ok.ok q hq
  have i1:=df q.1 (by omega)
  have i2:=df q.2 (by omega)
  rcases vT (nq q hq) with ⟨e,l⟩ | ⟨e,l⟩<;>rw [e]<;>simp only<;>omega
 ·have o:=ok.ok p jV
  have o':=ok.ok q jW
  refine Bo ok.inc jV jW ?_
  rcases vT (nq p jV) with ⟨e1,_⟩ | ⟨e1,_⟩<;>rcases vT (nq q jW) with ⟨e2,_⟩ | ⟨e2,_⟩<;>rw [e1,e2,Prod.mk.injEq] at e
  ·exact rH nd (by omega) (by omega) e.1
  ·have h1:=rH nd (by omega) (by omega) e.1
   have h2:=rH nd (by omega) (by omega) e.2
   omega
  ·have h1:=rH nd (by omega) (by omega) e.1
   have h2:=rH nd (by omega) (by omega) e.2
   omega
  ·exact rH nd (by omega) (by omega) e.2
 ·obtain ⟨q,hq,z⟩:=vd hl nd ok hp h
  have o:=ok.ok q hq
  rcases z with ⟨rfl,rfl⟩ | ⟨rfl,rfl⟩<;>rw [rA nd (by omega),rA nd (by omega)]<;>omega
 ·obtain ⟨q,hq,z⟩:=vd hl nd ok hp h
  have o:=ok.ok q hq
  rcases z with ⟨rfl,rfl⟩ | ⟨rfl,rfl⟩<;>rw [rA nd (by omega)]<;>omega
 ·obtain ⟨q,hq,z⟩:=vd hl nd ok hp ha
  obtain ⟨q',cW,z'⟩:=vd hl nd ok hp hb
  have o:=ok.ok q hq
  have o':=ok.ok q' cW
  have e1:v=atO os q.1/\a=atO os q.2:=by
   rcases z with z | ⟨rfl,rfl⟩
   ·exact z
   ·rw [rA nd (by omega),rA nd (by omega)] at la;omega
  have e2:v=atO os q'.1/\b=atO os q'.2:=by
   rcases z' with z' | ⟨rfl,rfl⟩
   ·exact z'
   ·rw [rA nd (by omega),rA nd (by omega)] at lb;omega
  have:=Bo ok.inc hq cW (rH nd (by omega) (by omega) (e1.1.symm.trans e2.1))
  subst this
  rw [e1.2,e2.2]
end
@[simp ↓] theorem Mv {i:Nat}{t:M (List D)}{Γ:Gm}{Q:Fl->Gm->Prop}:wp (insS i t) Γ Q↔isMut Γ i=true/\wp t Γ λds Z=>wp (wr i (insF ds)) Z λ_ ah=>Q .nx ah:=by
 simp only [insS,ur,qo,xT]
theorem GP {n:Nat}{d:D}{ds:List D} (h:n<=ds.length) (l:ds.length < 1000):insF [.int n,d] ds=some (ds.take n++d::ds.drop n):=by
 unfold insF
 dsimp only
 rw [if_pos ⟨by omega,by omega,by unfold lim;omega⟩,toNat_natCast]
theorem Gr {c:List D}{m:Nat}{Q:R->List D->Prop} (hc:PotOk c) (hm:m<=8) (k:∀ (os:List Int) c',os.length=m->os.Nodup->(∀ x∈os,0<=x/\x < m)->PotOk c'->Q (.val (.lst (os.map D.int))) c'):wpB u9 c [.int m] Q:=by
 refine rF rfl λKE hE _=>?_
 rw [yb]
 refine pR ?_;rintro K hK -
 refine ⟨_,_,rfl,hK _ ?_⟩
 show wp _ [some (.bor c),some (.val (.int m)),some (.own []),none] _
 refine pR ?_;rintro K hK -
 simp
 refine ⟨by omega,?_⟩
 refine sf (J:=λi Γ=>∃ (c:List D) (os:List Int) (x:Option R),PotOk c/\os.length=i/\os.Nodup/\(∀ x∈os,0<=x/\x < i)/\Γ=[some (.bor c),some (.val (.int m)),some (.own (os.map D.int)),x]) ⟨c,[],none,hc,rfl,nodup_nil,by simp,rfl⟩ ?_ ?_
 ·rintro i d Γ hd ⟨c,os,x,hc,hl,nd,rg,rfl⟩ KL cQ - - -
  obtain ⟨rfl,hi⟩:=zC hd
  simp [isMut,R.mut]
  refine qH hc (by omega) (by omega) λn c' me jm bx=>?_
  obtain ⟨n,rfl⟩:=Int.eq_ofNat_of_zero_le me
  have e1:=GP (n:=n) (d:=.int i) (ds:=os.map D.int) (by simp;omega) (by simp;omega)
  simp [e1]
  refine cQ _ ⟨c',os.take n++(i:Int)::os.drop n,some (.val (.int i)),bx,?_,?_,?_,by simp⟩
  ·simp;omega
  ·have pm:(os.take n++(i:Int)::os.drop n).Perm ((i:Int)::os):=by
    have:=List.perm_middle (a:=(i:Int)) (l₁:=os.take n) (l₂:=os.drop n)
    rwa [List.take_append_drop] at this
   refine pm.symm.nodup (nodup_cons.mpr ⟨λz=>?_,nd⟩)
   have:=rg _ z
   omega
  ·intro x hx
   have:x=i\/x∈os:=by
    rcases mem_append.mp hx with z | z
    ·exact .inr (mem_of_mem_take z)
    ·rcases mem_cons.mp z with z | z
     ·exact .inl z
     ·exact .inr (mem_of_mem_drop z)
   rcases this with rfl | z
   ·omega
   ·have:=rg x z;omega
 ·rintro Γ ⟨c,os,x,hc,hl,nd,rg,rfl⟩
  refine hK _ ?_
  rw [Ar] at hl rg
  simp
  exact hE _ _ _ ⟨_,rfl⟩ (k os c hl nd rg hc)
theorem sJ {p:Int×Int}:dep (pairD p)<=1:=by
 unfold pairD
 simp [dep,depA]
noncomputable def sortP (ps:List (Int×Int)):List (Int×Int):=ps.mergeSort λp q=>leD (pairD p) (pairD q)
theorem EI {ps:List (Int×Int)} (h:ps.length < 64):∃ rs:List (Int×Int),sortF [.lst (ps.map pairD)]=some (rs.map pairD)/\rs.Perm ps/\rs=sortP ps:=by
 refine ⟨ps.mergeSort λp q=>leD (pairD p) (pairD q),?_,mergeSort_perm _ _,rfl⟩
 rw [CQ]
 ·unfold sortD
  exact congrArg some (List.map_mergeSort (s:=leD) (f:=pairD) λa _ b _=>rfl).symm
 ·refine ⟨by simpa using h,?_,?_,.inr (.inl ?_)⟩
  ·unfold cmAll
   rw [all_eq_true]
   intro a ha
   rw [all_eq_true]
   intro b hb
   obtain ⟨i,_,rfl⟩:=mem_map.mp ha
   obtain ⟨j,_,rfl⟩:=mem_map.mp hb
   simp [pairD,cmB,cmA]
  ·refine le_trans (sj (n:=1) λd hd=>?_) (by omega)
   obtain ⟨p,_,rfl⟩:=mem_map.mp hd
   exact sJ
  ·rw [all_eq_true]
   intro a ha
   obtain ⟨i,_,rfl⟩:=mem_map.mp ha
   rfl
theorem F7 {c:List D}{Q:R->List D->Prop} (hc:PotOk c) (k:∀ n rs rk c',Web n rs rk->(∃ ps,rs=sortP ps)->PotOk c'->Q (.val (webD n rs)) c'):wpB vF c [.int 8] Q:=by
 refine rF rfl λKE hE _=>?_
 rw [wO]
 refine pR ?_;rintro K hK -
 simp [isMut,R.mut]
 refine qH hc (by omega) (by omega) λgD c1 gY dU hc=>?_
 simp
 refine hK _ ?_
 refine pR ?_;rintro K hK -
 simp [isMut,R.mut]
 refine qH hc (by omega) (by omega) λm0 c2 fh dh hc=>?_
 obtain ⟨m,hm⟩:∃ m:Nat,1+m0=m:=⟨(1+m0).toNat,by omega⟩
 simp [hm]
 refine hK _ ?_
 refine pR ?_;rintro K hK -
 simp [isMut,R.mut]
 refine Gr hc (by omega) λos c3 hl nd rg hc=>?_
 simp
 refine hK _ ?_
 refine pR ?_;rintro K hK -
 refine ⟨_,_,rfl,hK _ ?_⟩
 show wp _ [some (.bor c3),some (.val (.int 8)),some (.val (.int gD)),some (.val (.int m)),some (.val (.lst (os.map D.int))),some (.own []),none,none] _
 refine pR ?_;rintro K hK -
 simp
 refine ⟨by omega,?_⟩
 have mf:∀ j,j < m->atI (os.map D.int) ((j:Nat):Int)=some (.int (atO os j)):=λj hj=>by
  rw [DL.r8,v7 (by omega)]
  simp [hl,hj]
 refine sf (J:=λi Γ=>∃ (c:List D) (L:List (Nat×Nat)) (x6 x7:Option R),PotOk c/\LOk (i+1) L/\L.length<=i/\Γ=[some (.bor c),some (.val (.int 8)),some (.val (.int gD)),some (.val (.int m)),some (.val (.lst (os.map D.int))),some (.own ((roadsO os L).map pairD)),x6,x7]) ⟨c3,[],none,none,hc,⟨List.Pairwise.nil,by simp⟩,le_refl _,rfl⟩ ?_ ?_
 ·rintro i d Γ hd ⟨c,L,x6,x7,hc,ok,ll,rfl⟩ KL cQ - - -
  obtain ⟨rfl,hi⟩:=zC hd
  have up:LOk (i+1+1) L:=⟨ok.inc,λq hq=>by have:=ok.ok q hq;omega⟩
  obtain ⟨kk,oE⟩:∃ kk:Nat,(1:Int)+i=kk:=⟨1+i,by omega⟩
  rw [oE]
  simp [isMut,R.mut]
  refine qH hc (by omega) (by omega) λn1 c4 me jm hc=>?_
  simp
  split
  ·refine pR ?_;rintro K hK -
   have a1:=mf kk (by omega)
   simp [isMut,R.mut,a1]
   refine qH hc (by omega) (by omega) λj c5 oF pE hc=>?_
   obtain ⟨j,rfl⟩:=Int.eq_ofNat_of_zero_le oF
   have a2:=mf j (by omega)
   simp [a2]
   refine hK _ ?_
   simp [isMut,R.mut,minTF,maxTF]
   have ln:(roadsO os L).length=L.length:=by simp [roadsO]
   refine ⟨by omega,cQ _ ⟨c5,L++[(kk,j)],some (.val (.int kk)),some (.val (.tup [.int (atO os kk),.int (atO os j)])),hc,⟨?_,?_⟩,by simp;omega,?_⟩⟩
   ·rw [List.pairwise_append]
    refine ⟨ok.inc,by simp,λp hp q hq=>?_⟩
    rw [mem_singleton.mp hq]
    have:=ok.ok p hp
    simp only
    omega
   ·intro q hq
    rcases mem_append.mp hq with hq | hq
    ·exact up.ok q hq
    ·rw [mem_singleton.mp hq]
     simp only
     omega
   ·simp [roadsO,mkR,pairD]
  ·exact cQ _ ⟨c4,L,_,_,hc,up,by omega,rfl⟩
 ·rintro Γ ⟨c,L,x6,x7,hc,ok,ll,rfl⟩
  refine hK _ ?_
  rw [Ar] at ok ll
  have mm:m - 1+1=m:=by omega
  rw [mm] at ok
  obtain ⟨rs,e1,hp,hs⟩:=EI (ps:=roadsO os L) (by simp [roadsO];omega)
  simp [e1]
  exact hE _ _ _ ⟨_,rfl⟩ (k m rs _ c (Ew hl nd rg ok (by omega) (by omega) hp) ⟨_,hs⟩ hc)
noncomputable def wyD:Option (List Int)->D
 | some l=>.lst (l.map D.int)
 | none=>.non
theorem GR {g:List R->Option (R×List R)}{t:M (List D)}{Γ:Gm}{ds:List D}{o:Option (List Int)}{Q:D->Gm->Prop} (m:(∀ l,o.map (·.map D.int)=some l->coF g ds=some l)/\(o.map (·.map D.int)=none->MixN g ds)) (h:wp t Γ λbZ Z=>bZ=ds/\Q (wyD o) Z):wp (altM (frz (fn1 (coF g) t)) (fn1 (cvF g) t)) Γ Q:=by
 obtain ⟨bZ,Z,e,rfl,q⟩:=h
 cases o with
 | some l=>exact AM e (m.1 _ rfl) q
 | none=>exact zV e (m.2 rfl) q
theorem btw {n:Nat}{rs:List (Int×Int)}{rk:Int->Nat} (W:Web n rs rk){a b:Int} (a0:0<=a) (a1:a < n) (b0:0<=b) (b1:b < n):(∀ l,(Wy (nbs rs) 21 none a b).map (·.map D.int)=some l->coF sA [webD n rs,D.int a,D.int b]=some l)/\((Wy (nbs rs) 21 none a b).map (·.map D.int)=none->MixN sA [webD n rs,D.int a,D.int b]):=wU (Gk W a0 a1 b0 b1)
theorem Ky {rs:List (Int×Int)}{i:Nat} (h:i < rs.length):slF (.tup (rs.map pairD)) none (some (i:Int))=some (.tup ((rs.take i).map pairD)):=by
 unfold slF
 simp only
 rw [if_neg]
 ·rw [CO,map_take]
 ·rintro ⟨_,z⟩
  rw [length_map,xD] at z
  omega
theorem GF {n:Nat} (n1:1<=n) (n8:n<=8):Web n [] λ_=>0:=by
 refine ⟨n1,n8,λr h=>(by cases h),nodup_nil,λa b h=>?_,λa b h=>?_,λv a b h=>?_⟩<;>rcases h with h | h<;>cases h
theorem DV {rs:List (Int×Int)}{i:Nat}{d:D} (h:(numD 0 (rs.map pairD))[i]?=some d):∃ r,rs[i]?=some r/\d=.tup [.int i,pairD r]:=by
 obtain ⟨x,h1,rfl⟩:=DL.tu h
 rw [getElem?_map,map_eq_some_iff] at h1
 obtain ⟨r,h1,rfl⟩:=h1
 exact ⟨r,h1,by rw [zero_add]⟩
theorem FQ {n:Nat}{rs:List (Int×Int)} (lt:∀ r∈rs,0<=r.1/\r.1 < r.2/\r.2 < n) (nd:rs.Nodup){i:Nat}{a b:Int} (hr:rs[i]?=some (a,b)){rk:Int->Nat} (W:Web n (rs.take i) rk) (no:Wy (nbs (rs.take i)) 21 none a b=none):∃ ez,Web n (rs.take (i+1)) ez:=by
 have l:=lt _ (mem_of_getElem? hr)
 have tk:rs.take (i+1)=rs.take i++[(a,b)]:=by rw [take_succ,hr];rfl
 refine W.more W.nb l.1 l.2.1 l.2.2 ?_ (nd.sublist (List.take_sublist _ _)) λr=>?_
 ·cases e:Wy (nbs (rs.take i)) 20 none b a with
  | none=>rfl
  | some p =>
   exfalso
   have e2:=W.wy_rev W.nb (by omega) e
   obtain ⟨q,e3,r,e4⟩:=qX e2
   have:=W.uni' W.nb (k:=21) (by omega) e3 e4 (sK W.nb e2) (W.wy_nodup W.nb e2)
   rw [no] at this
   cases this
 ·rw [tk,mem_append,mem_singleton]
  exact or_comm
theorem EY {n:Nat}{rs:List (Int×Int)}{rk:Int->Nat} (W:Web n rs rk){i:Nat}{a b:Int} (hr:rs[i]?=some (a,b)):Web n (rs.take i) rk/\Wy (nbs (rs.take i)) 21 none a b=none:=by
 have W':Web n (rs.take i) rk:=W.sub (λr h=>mem_of_mem_take h) (W.nd.sublist (List.take_sublist _ _))
 have m:=mem_of_getElem? hr
 have l:=W.lt _ m
 refine ⟨W',?_⟩
 cases e:Wy (nbs (rs.take i)) 21 none a b with
 | none=>rfl
 | some p =>
  exfalso
  have ne:a≠b:=by have:=l.2.1;simp only at this;omega
  have ad:=W.only W.nb W' W'.nb (λr h=>mem_of_mem_take h) (by omega) (.inl m) ne e
  rcases ad with h | h
  ·obtain ⟨j,hj,e2⟩:=List.mem_take_iff_getElem.mp h
   obtain ⟨hi,e3⟩:=List.getElem?_eq_some_iff.mp hr
   have:=(List.getElem_inj W.nd).mp (e2.trans e3.symm)
   omega
  ·have l':=W.lt _ (mem_of_mem_take h)
   have h1:=l.2.1
   have h2:=l'.2.1
   simp only at h1 h2
   omega
theorem Ka {n:Nat}{rs:List (Int×Int)} (n1:1<=n) (n8:n<=8) (lt:∀ r∈rs,0<=r.1/\r.1 < r.2/\r.2 < n) (nd:rs.Nodup){v:Bool} (hv:v=false↔∃ rk,Web n rs rk) (pF:rs.length<=64):cvF uY [.int n,.tup (rs.map pairD)]=some (.bl v):=by
 refine qh rfl λKE k1 _=>?_
 rw [ye]
 refine pR ?_;rintro K hK hR
 simp
 refine sf (J:=λi Γ=>∃ x2 x3,(∃ rk,Web n (rs.take i) rk)/\Γ=[some (.val (.int n)),some (.val (.tup (rs.map pairD))),x2,x3]) ⟨none,none,⟨_,by rw [take_zero];exact GF n1 n8⟩,rfl⟩ ?_ ?_
 ·rintro i d Γ hd ⟨x2,x3,⟨rk,W⟩,rfl⟩ KL cQ - - jU
  obtain ⟨⟨a,b⟩,hr,rfl⟩:=DV hd
  have l:=lt _ (mem_of_getElem? hr)
  have hi:i < rs.length:=(List.getElem?_eq_some_iff.mp hr).1
  have e1:=Ky hi
  have B:=btw W (a:=a) (b:=b) l.1 (by have:=l.2.1;have:=l.2.2;simp only at *;omega) (by have:=l.1;have:=l.2.1;simp only at *;omega) l.2.2
  simp
  refine GR B ?_
  simp [e1]
  refine ⟨by unfold webD;rw [map_take],?_⟩
  cases e:Wy (nbs (rs.take i)) 21 none a b with
  | some p =>
   simp [isN,wyD]
   refine jU _ _ (hR _ _ ?_)
   have:v=true:=by
    cases v with
    | true=>rfl
    | false =>
     obtain ⟨ez,W'⟩:=hv.mp rfl
     rw [(EY W' hr).2] at e
     cases e
   subst this
   exact k1 _ ⟨_,rfl⟩
  | none =>
   simp [isN,wyD]
   exact cQ _ ⟨_,_,FQ lt nd hr W e,rfl⟩
 ·rintro Γ ⟨x2,x3,W,rfl⟩
  refine hK _ ?_
  have ln:(numD 0 (rs.map pairD)).length=rs.length:=by rw [DL.xJ,length_map]
  rw [ln,List.take_length] at W
  have:=hv.mpr W
  subst this
  exact ⟨_,_,rfl,k1 _ ⟨_,rfl⟩⟩
theorem Web.few {n:Nat}{rs:List (Int×Int)}{rk:Int->Nat} (W:Web n rs rk):rs.length<=n:=by
 have:=AC (m:=n) (l:=rs.map λr=>if rk r.1 < rk r.2 then r.2 else r.1) (vH W.nd λx hx y hy e=>?_) λv hv=>?_
 ·simpa using this
 ·obtain ⟨a,b⟩:=x
  obtain ⟨c,d⟩:=y
  have ax:Adj rs a b:=.inl hx
  have ay:Adj rs c d:=.inl hy
  have n1:=W.ne _ _ ax
  have n2:=W.ne _ _ ay
  have l1:=(W.lt _ hx).2.1
  have l2:=(W.lt _ hy).2.1
  simp only at e l1 l2
  by_cases p:rk a < rk b<;>by_cases q:rk c < rk d
  ·rw [if_pos p,if_pos q] at e
   subst e
   rw [W.one b a c ax.symm ay.symm p q]
  ·rw [if_pos p,if_neg q] at e
   subst e
   have:=W.one b a d ax.symm ay p (by omega)
   subst this
   omega
  ·rw [if_neg p,if_pos q] at e
   subst e
   have:=W.one a b c ax ay.symm (by omega) q
   subst this
   omega
  ·rw [if_neg p,if_neg q] at e
   subst e
   rw [W.one a b d ax ay (by omega) (by omega)]
 ·obtain ⟨r,hr,rfl⟩:=mem_map.mp hv
  have:=W.lt r hr
  split<;>omega
def Rise (rs:List (Int×Int)):Prop:=(rs.map pairD).Pairwise λa b=>leD a b=true
theorem GX (ps:List (Int×Int)):Rise (sortP ps):=by
 unfold Rise sortP
 have:(ps.mergeSort λp q=>leD (pairD p) (pairD q)).map pairD=sortD (ps.map pairD):=List.map_mergeSort (s:=leD) (f:=pairD) λa _ b _=>rfl
 rw [this]
 exact tz _
theorem wo {p q:Int×Int} (h:pairD p=pairD q):p=q:=by
 unfold pairD at h
 injection h with h
 injection h with h1 h2
 injection h1 with h1
 injection h2 with h2 h3
 injection h2 with h2
 exact Prod.ext h1 h2
theorem Bs (ps:List (Int×Int)):cmAll (ps.map pairD)=true:=by
 unfold cmAll
 rw [all_eq_true]
 intro a ha
 rw [all_eq_true]
 intro b hb
 obtain ⟨i,_,rfl⟩:=mem_map.mp ha
 obtain ⟨j,_,rfl⟩:=mem_map.mp hb
 simp [pairD,cmB,cmA]
theorem Cp {p q:Int×Int}:deq (pairD p) (pairD q)=decide (p=q):=by
 obtain ⟨a,b⟩:=p
 obtain ⟨c,d⟩:=q
 unfold pairD
 simp only [deq,deqA,Prod.mk.injEq]
 by_cases h1:a=c<;>by_cases h2:b=d<;>simp [h1,h2]
theorem yJ {rs:List (Int×Int)} (nd:rs.Nodup):dd (rs.map pairD)=rs.map pairD:=by
 have bF:∀ (rs af:List (Int×Int)),(af++rs).Nodup->(rs.map pairD).foldl dstep (af.map pairD)=(af++rs).map pairD:=by
  intro rs
  induction rs with
  | nil=>intro af _;simp
  | cons r rs ih =>
   intro af h
   rw [map_cons,foldl_cons]
   have no:¬ (af.map pairD).any (λe=>deq e (pairD r))=true:=by
    rw [any_eq_true]
    rintro ⟨e,he,z⟩
    obtain ⟨p,hp,rfl⟩:=mem_map.mp he
    rw [Cp,decide_eq_true_eq] at z
    subst z
    exact (nodup_append.mp h).2.2 p hp p mem_cons_self rfl
   have:dstep (af.map pairD) (pairD r)=(af++[r]).map pairD:=by
    unfold dstep
    rw [if_neg no]
    simp
   rw [this,ih (af++[r]) (by simpa using h)]
   simp
 exact bF rs [] (by simpa using nd)
theorem F9 {rs:List (Int×Int)} (h:Rise rs):sortD (rs.map pairD)=rs.map pairD:=List.mergeSort_of_pairwise h
theorem DO {rs:List (Int×Int)} (nd:rs.Nodup) (h:Rise rs) (l:rs.length<=28):setTF [.tup (rs.map pairD)]=some (rs.map pairD):=by
 unfold setTF
 simp only
 rw [if_pos,yJ nd,F9 h]
 refine ⟨⟨Bs rs,?_,?_,?_,by rw [yJ nd];simpa using l⟩,.inl ?_⟩
 ·rw [all_eq_true];intro a ha;obtain ⟨i,_,rfl⟩:=mem_map.mp ha;rfl
 ·rw [all_eq_true];intro a ha;obtain ⟨i,_,rfl⟩:=mem_map.mp ha;rfl
 ·refine le_trans (sj (n:=1) λd hd=>?_) (by omega)
  obtain ⟨p,_,rfl⟩:=mem_map.mp hd
  exact sJ
 ·rw [all_eq_true];intro a ha;obtain ⟨i,_,rfl⟩:=mem_map.mp ha;rfl
@[simp ↓] theorem Lu {F F' eP:D->D->Option D}{ga gb gc gd:M D}{Γ:Gm}{Q:D->Gm->Prop}:wp (chn3 F F' eP ga gb gc gd) Γ Q↔wp ga Γ λx Z=>wp gb Z λy ah=>wp (lft (F x y)) ah λz aK=>wp (lft (asB z)) aK λk aM=>if k then wp gc aM λw bU=>wp (lft (F' y w)) bU λz' dg=>wp (lft (asB z')) dg λk' gw=>if k' then wp gd gw λw' lm=>wp (lft (eP w w')) lm Q else Q (.bl false) gw else Q (.bl false) aM:=by
 unfold chn3
 simp only [qo]
 constructor
 ·intro h
  refine h.mono λx Z h=>h.mono λy ah h=>h.mono λz aK h=>h.mono λk aM h=>?_
  cases k
  ·simpa using h
  ·simp only [if_true,qo] at h ⊢
   refine h.mono λw bU h=>h.mono λz' dg h=>h.mono λk' gw h=>?_
   cases k'
   ·simpa using h
   ·simpa [qo] using h
 ·intro h
  refine h.mono λx Z h=>h.mono λy ah h=>h.mono λz aK h=>h.mono λk aM h=>?_
  cases k
  ·simpa using h
  ·simp only [if_true,qo] at h ⊢
   refine h.mono λw bU h=>h.mono λz' dg h=>h.mono λk' gw h=>?_
   cases k'
   ·simpa using h
   ·simpa [qo] using h
theorem zR {i:Int}:cvF qR [.int i]=some (.bl true):=rfl
theorem EV {n:Nat}{r:Int×Int} (h:0<=r.1/\r.1 < r.2/\r.2 < n):cvF tU [.int n,pairD r]=some (.bl true):=by
 obtain ⟨a,b⟩:=r
 obtain ⟨h0,h1,h2⟩:=h
 simp only at h0 h1 h2
 refine qh rfl λKE k1 _=>?_
 rw [vo]
 refine pR ?_;rintro K hK -
 simp [pairD,dep,qM]
 refine hK _ ?_
 simp [pairD,zR,h0,h1,h2]
 exact k1 _ ⟨_,rfl⟩
theorem Jf {n:Nat}{rs:List (Int×Int)} (n1:1<=n) (n8:n<=8) (lt:∀ r∈rs,0<=r.1/\r.1 < r.2/\r.2 < n) (nd:rs.Nodup) (ri:Rise rs) (oG:rs.length<=28){v:Bool} (hv:v=true↔∃ rk,Web n rs rk):cvF rz [webD n rs]=some (.bl v):=by
 have e1:=Ka n1 n8 lt nd (v:=!v) (by rw [← hv];cases v<;>simp) (by omega)
 have e2:=DO nd ri oG
 refine qh rfl λKE k1 _=>?_
 rw [uT]
 refine pR ?_;rintro K hK -
 simp [webD,dep,qM]
 refine hK _ ?_
 refine pR ?_;rintro K hK -
 simp [webD]
 refine hK _ ?_
 refine pR ?_;rintro K hK -
 simp [webD]
 refine hK _ ?_
 refine pR ?_;rintro K hK -
 simp [zR,n1,n8,show (1:Int)<=n by omega,show (n:Int)<=8 by omega]
 refine hK _ ?_
 refine pR ?_;rintro K hK -
 simp
 refine qK rs pairD (λ_=>true) (λ_=>.bl true) ?_
 simp
 refine ⟨by omega,λa b hr=>?_,?_⟩
 ·have:=EV (n:=n) (r:=(a,b)) (lt _ hr)
  simp [this]
 ·rw [vh (f:=λ_:Int×Int=>true)]
  have al:((filter (λ_=>true) rs).all λ_:Int×Int=>true)=true:=by simp
  rw [al]
  simp
  refine hK _ ?_
  simp [e2]
  have d1:depA (rs.map pairD)<=1:=sj λd hd=>by
   obtain ⟨p,_,rfl⟩:=mem_map.mp hd
   exact sJ
  refine ⟨by rw [dep];omega,?_⟩
  rw [vy]
  simp [e1]
  exact k1 _ ⟨_,rfl⟩
theorem xx {az:D->M Unit}{ts:M Bool}{el:M D}{it:M (List D)}{Γ:Gm}{QL:List D->Gm->Prop} (J:Nat->List D->Gm->Prop)
  (h:wp it Γ λds Z=>ds.length<=lim/\J 0 [] Z/\(∀ (i:Nat) d af a ah,ds[i]?=some d->J i af ah->wp (az d) (a::ah) λ_ aK=>wp ts aK λb aM=>b=true/\wp el aM λx bU=>∃ a' dg,bU=a'::dg/\J (i+1) (af++[x]) dg)/\∀ af ah,J ds.length af ah->QL af ah):wp (compO 1 it az ts el) Γ QL:=by
 unfold compO
 rw [qo]
 refine h.mono λds Z ⟨hl,h0,hs,hq⟩=>?_
 rw [if_pos hl]
 have bF:∀ (es:List D) (i:Nat) (af:List D) (a:Option R) (ah:Gm),ds.drop i=es->i<=ds.length->J i af ah->∃ r a' bO,compM az ts el es (a::ah)=some (r,a'::bO)/\J ds.length (af++r) bO:=by
  intro es
  induction es with
  | nil =>
   intro i af a ah hd hi hj
   have:i=ds.length:=by
    have:=List.drop_eq_nil_iff.mp hd
    omega
   subst this
   exact ⟨[],a,ah,rfl,by simpa using hj⟩
  | cons d es ih =>
   intro i af a ah hd hi hj
   have bc:i < ds.length:=by
    rcases lt_or_ge i ds.length with z | z
    ·exact z
    ·rw [List.drop_eq_nil_of_le z] at hd;cases hd
   have e1:ds[i]?=some d:=by
    have:=drop_eq_getElem_cons bc
    rw [hd] at this
    cases this
    exact getElem?_eq_getElem bc
   have e2:ds.drop (i+1)=es:=by
    have:=drop_eq_getElem_cons bc
    rw [hd] at this
    injection this with _ q
    exact q.symm
   obtain ⟨_,aK,g1,b,aM,g2,rfl,x,bU,g3,a',dg,rfl,bf⟩:=hs i d af a ah e1 hj
   obtain ⟨r,oH,bO,g4,mh⟩:=ih (i+1) (af++[x]) a' dg e2 bc bf
   refine ⟨x::r,oH,bO,?_,by simpa using mh⟩
   rw [compM]
   unfold bnd
   rw [g1]
   dsimp only
   rw [g2]
   dsimp only
   rw [if_pos rfl]
   rw [g3]
   dsimp only
   rw [g4]
   rfl
 obtain ⟨r,a',bO,e,hj⟩:=bF ds 0 [] none Z rfl (zero_le _) h0
 refine ⟨r,bO,?_,hq r bO (by simpa using hj)⟩
 have e':compM az ts el ds (replicate 1 none++Z)=some (r,a'::bO):=e
 unfold inC
 rw [e']
 rfl
@[simp] theorem L9 {α:Type}{xs:List α}:filter (λ_=>true) xs=xs:=by
 induction xs with
 | nil=>rfl
 | cons x xs ih=>simp
noncomputable def figB:D->Bool
 | .int i=>decide (0<=i)&&decide (i<=9)
 | _=>false
noncomputable def fldB:D->Bool
 | .tup ds=>decide (1<=ds.length)&&decide (ds.length<=3)
 | _=>false
noncomputable def letB:D->Bool
 | .tup ds=>decide (1<=ds.length)&&decide (ds.length<=3)&&ds.all figB
 | _=>false
noncomputable def prB:D->Bool
 | .tup [.int a,.int b]=>figB (.int a)&&(figB (.int b)&&decide (a<=b))
 | _=>false
noncomputable def wiB:D->Bool
 | .tup ds=>decide (1<=ds.length)&&decide (ds.length<=3)&&ds.all prB
 | _=>false
theorem JE (d:D):cvF qR [d]=some (.bl (match d with | .int _=>true | _=>false)):=by
 cases d<;>rfl
theorem v5 (d:D):cvF sN [d]=some (.bl (figB d)):=by
 cases d with
 | int i =>
  have e:=JE (.int i)
  refine qh rfl λKE k1 _=>?_
  rw [yF]
  simp [e]
  by_cases h:0<=i
  ·have q:figB (.int i)=decide (i<=9):=by simp [figB,h]
   rw [q] at k1
   simp [h]
   exact k1 _ ⟨_,rfl⟩
  ·have q:figB (.int i)=false:=by simp [figB,h]
   rw [q] at k1
   simp [h]
   exact k1 _ ⟨_,rfl⟩
 | non=>rfl
 | bl b=>rfl
 | str x=>rfl
 | tup ds=>rfl
 | lst ds=>rfl
theorem Cb (d:D):cvF ud [d]=some (.bl (fldB d)):=by
 cases d with
 | tup ds =>
  refine qh rfl λKE k1 _=>?_
  rw [w4]
  simp
  by_cases h:1<=ds.length
  ·have h':(1:Int)<=(ds.length:Int):=by omega
   have e:decide ((ds.length:Int)<=3)=decide (ds.length<=3):=by
    by_cases q:ds.length<=3
    ·rw [decide_eq_true q,decide_eq_true (by omega)]
    ·rw [decide_eq_false q,decide_eq_false (by omega)]
   have q:fldB (.tup ds)=decide ((ds.length:Int)<=3):=by simp [fldB,h,e]
   rw [q] at k1
   simp [h']
   exact k1 _ ⟨_,rfl⟩
  ·have h':¬ (1:Int)<=(ds.length:Int):=by omega
   have q:fldB (.tup ds)=false:=by simp [fldB,h]
   rw [q] at k1
   simp [h']
   exact k1 _ ⟨_,rfl⟩
 | non=>rfl
 | bl b=>rfl
 | str x=>rfl
 | int i=>rfl
 | lst ds=>rfl
theorem Kf (d:D):cvF uQ [d]=some (.bl (prB d)):=by
 cases d with
 | tup ds =>
  refine qh rfl λKE k1 _=>?_
  rw [yM]
  refine pR ?_;rintro K hK hR
  by_cases h:ds.length=2
  ·match ds,h with
   | [x,y],_ =>
    simp [dep]
    refine hK _ ?_
    have e1:=v5 x
    have e2:=v5 y
    have i0:atI [x,y] 0=some x:=rfl
    have i1:atI [x,y] 1=some y:=rfl
    simp [i0,i1,e1,e2]
    cases hx:figB x with
    | false =>
     simp
     have:prB (.tup [x,y])=false:=by
      unfold prB
      split
      ·rename_i z;cases z;rw [hx];rfl
      ·rfl
     rw [this] at k1
     exact k1 _ ⟨_,rfl⟩
    | true =>
     cases hy:figB y with
     | false =>
      simp
      have:prB (.tup [x,y])=false:=by
       unfold prB
       split
       ·rename_i z;cases z;rw [hx,hy];rfl
       ·rfl
      rw [this] at k1
      exact k1 _ ⟨_,rfl⟩
     | true =>
      obtain ⟨a,rfl⟩:∃ a,x=.int a:=by cases x<;>simp [figB] at hx ⊢
      obtain ⟨b,rfl⟩:∃ b,y=.int b:=by cases y<;>simp [figB] at hy ⊢
      have q:prB (.tup [.int a,.int b])=decide (a<=b):=by rw [prB,hx,hy];rfl
      rw [q] at k1
      simp
      exact k1 _ ⟨_,rfl⟩
  ·have h':¬ (ds.length:Int)=2:=by omega
   have:prB (.tup ds)=false:=by
    unfold prB
    split
    ·rename_i z;cases z;exact absurd rfl h
    ·rfl
   rw [this] at k1
   simp [dep,Dx,h']
   exact hR _ _ (k1 _ ⟨_,rfl⟩)
 | non=>rfl
 | bl b=>rfl
 | str x=>rfl
 | int i=>rfl
 | lst ds=>rfl
theorem BR {d:D} (hd:∀ ds,d=.tup ds->ds.length<=1000):cvF rW [d]=some (.bl (letB d)):=by
 have e:=Cb d
 refine qh rfl λKE k1 _=>?_
 rw [yU]
 simp [e]
 cases hf:fldB d with
 | false =>
  have:letB d=false:=by
   cases d<;>simp [letB,fldB] at hf ⊢
   intro a b;omega
  rw [this] at k1
  simp
  exact k1 _ ⟨_,rfl⟩
 | true =>
  obtain ⟨ds,rfl⟩:∃ ds,d=.tup ds:=by cases d<;>simp [fldB] at hf ⊢
  simp only [fldB,and_eq_true,decide_eq_true_eq] at hf
  have:letB (.tup ds)=ds.all figB:=by simp [letB,hf]
  rw [this] at k1
  simp
  refine qK ds (λx=>x) (λ_=>true) (λx=>.bl (figB x)) ?_
  have l:=hd ds rfl
  simp
  refine ⟨by omega,λx hx=>by simp [v5 x],?_⟩
  rw [vh]
  exact ⟨_,_,rfl,k1 _ ⟨_,rfl⟩⟩
theorem zm {d:D} (hd:∀ ds,d=.tup ds->ds.length<=1000):cvF rK [d]=some (.bl (wiB d)):=by
 have e:=Cb d
 refine qh rfl λKE k1 _=>?_
 rw [yT]
 simp [e]
 cases hf:fldB d with
 | false =>
  have:wiB d=false:=by
   cases d<;>simp [wiB,fldB] at hf ⊢
   intro a b;omega
  rw [this] at k1
  simp
  exact k1 _ ⟨_,rfl⟩
 | true =>
  obtain ⟨ds,rfl⟩:∃ ds,d=.tup ds:=by cases d<;>simp [fldB] at hf ⊢
  simp only [fldB,and_eq_true,decide_eq_true_eq] at hf
  have:wiB (.tup ds)=ds.all prB:=by simp [wiB,hf]
  rw [this] at k1
  simp
  refine qK ds (λx=>x) (λ_=>true) (λx=>.bl (prB x)) ?_
  have l:=hd ds rfl
  simp
  refine ⟨by omega,λx hx=>by simp [Kf x],?_⟩
  rw [vh]
  exact ⟨_,_,rfl,k1 _ ⟨_,rfl⟩⟩
open PySem in
theorem qz (a b:Str):(a++b).cps.toList=a.cps.toList++b.cps.toList:=by
 rw [Str.cps_append,Array.toList_append]
open PySem in
theorem wN {a b:Str} (h:a.cps.toList=b.cps.toList):a=b:=by
 cases a;cases b;simp only at h;congr 1;exact Array.toList_inj.mp h
theorem AZ {c:Nat}:∀ {x u A B:List Nat},c∉x->c∉u->x++c::A=u++c::B->x=u/\A=B
 | [],[],A,B,_,_,h=>by cases h;exact ⟨rfl,rfl⟩
 | [],a::u,A,B,_,hu,h=>by cases h;exact absurd mem_cons_self hu
 | a::x,[],A,B,hx,_,h=>by cases h;exact absurd mem_cons_self hx
 | a::x,b::u,A,B,hx,hu,h=>by
  rw [List.cons_append,List.cons_append] at h
  injection h with h1 h2
  obtain ⟨e1,e2⟩:=AZ (λz=>hx (mem_cons_of_mem _ z)) (λz=>hu (mem_cons_of_mem _ z)) h2
  exact ⟨by rw [h1,e1],e2⟩
open PySem in
theorem BX {c:Nat}:∀ {ts us:List Str},ts≠[]->us≠[]->(∀ t∈ts,c∉t.cps.toList)->(∀ t∈us,c∉t.cps.toList)->Str.join ⟨#[c]⟩ ts=Str.join ⟨#[c]⟩ us->ts=us
 | [],_,h,_,_,_,_=>absurd rfl h
 | _::_,[],_,h,_,_,_=>absurd rfl h
 | [x],[u],_,_,_,_,h=>by rw [show x=u from h]
 | [x],u::v::r,_,_,h1,_,h=>by
  have h:x=u++⟨#[c]⟩++Str.join ⟨#[c]⟩ (v::r):=h
  exact absurd (by rw [h,qz,qz];simp) (h1 x mem_cons_self)
 | x::y::r,[u],_,_,_,h2,h=>by
  have h:x++⟨#[c]⟩++Str.join ⟨#[c]⟩ (y::r)=u:=h
  exact absurd (by rw [← h,qz,qz];simp) (h2 u mem_cons_self)
 | x::y::r,u::v::q,_,_,h1,h2,h=>by
  have h:x++⟨#[c]⟩++Str.join ⟨#[c]⟩ (y::r)=u++⟨#[c]⟩++Str.join ⟨#[c]⟩ (v::q):=h
  have e:=congrArg (λs:Str=>s.cps.toList) h
  simp only [qz] at e
  have e':x.cps.toList++c::(Str.join ⟨#[c]⟩ (y::r)).cps.toList=u.cps.toList++c::(Str.join ⟨#[c]⟩ (v::q)).cps.toList:=by simpa using e
  obtain ⟨e1,e2⟩:=AZ (h1 x mem_cons_self) (h2 u mem_cons_self) e'
  rw [wN e1,BX (by simp) (by simp) (λt ht=>h1 t (mem_cons_of_mem _ ht)) (λt ht=>h2 t (mem_cons_of_mem _ ht)) (wN e2)]
open PySem in
theorem tZ {c:Nat}{ts:List Str} (ne:ts≠[]) (fr:∀ t∈ts,c∉t.cps.toList):Txt.split (Txt.join ⟨#[c]⟩ ts) ⟨#[c]⟩=ts:=by
 have e:Txt.join ⟨#[c]⟩ ts=Str.join ⟨#[c]⟩ ts:=StrLaws.glued_eq_join _ _
 have p:=split_pos (Txt.join ⟨#[c]⟩ ts) ⟨#[c]⟩
 exact BX (λz=>by rw [z] at p;cases p) ne (StrLaws.split_free _ _) fr (by rw [join_split,e])
theorem vt {i:Int} (h0:0<=i) (h9:i<=9):txt i=⟨#[48+i.toNat]⟩:=by
 have:i=0\/i=1\/i=2\/i=3\/i=4\/i=5\/i=6\/i=7\/i=8\/i=9:=by omega
 rcases this with rfl | rfl | rfl | rfl | rfl | rfl | rfl | rfl | rfl | rfl<;>decide
theorem Gz {x:PySem.Str}{Γ:Gm}{Q:D->Gm->Prop}:wp (lft (lenSF [.str x])) Γ Q↔x.length<=1000/\Q (.int x.length) Γ:=by simp only [lenSF,rD]
noncomputable def comma:PySem.Str:=⟨#[44]⟩
noncomputable def dash:PySem.Str:=⟨#[45]⟩
noncomputable def pairT (p:Int×Int):PySem.Str:=txt p.1++dash++txt p.2
theorem sr {i:Int} (h:0<=i/\i<=9):(txt i).length=1:=by rw [vt h.1 h.2];rfl
theorem rn {i:Int} (h:0<=i/\i<=9){c:Nat} (hc:c < 48):c∉(txt i).cps.toList:=by
 rw [vt h.1 h.2]
 simp
 omega
theorem joinok {x:PySem.Str}{ts:List PySem.Str} (hx:x.length<=1) (hl:ts.length<=20) (ht:∀ t∈ts,t.length<=9):PySem.JoinOk x ts=true:=by
 have h1:ts.length*x.length<=20*1:=Nat.mul_le_mul hl hx
 have:=joinFits (sep:=x) (texts:=ts) (B:=9) ht (by omega)
 unfold PySem.JoinOk
 rw [this]
 rfl
theorem va:((",":String):PySem.Str)=comma:=by decide
theorem Ae:(("-":String):PySem.Str)=dash:=by decide
theorem tN {x:PySem.Str}{ts:List PySem.Str} (hx:x.length<=1) (hl:ts.length<=20) (ht:∀ t∈ts,t.length<=9):joinF x [.lst (ts.map D.str)]=some (.str (join x ts)):=by
 unfold joinF
 simp only [zT]
 exact if_pos (joinok hx hl ht)
theorem vg {i:Int} (h:0<=i/\i<=9):strIF [.int i]=some (.str (txt i)):=by
 unfold strIF
 exact if_pos (by omega)
theorem join2 {p:Int×Int}:join dash [txt p.1,txt p.2]=pairT p:=by
 have:join dash [txt p.1,txt p.2]=PySem.Str.join dash [txt p.1,txt p.2]:=glued_eq_join _ _
 rw [this]
 rfl
theorem we {p:Int×Int} (h:PairOk p):(pairT p).length=3:=by
 have h1:=sr (i:=p.1) ⟨h.lo,by have:=h.le;have:=h.hi;omega⟩
 have h2:=sr (i:=p.2) ⟨by have:=h.le;have:=h.lo;omega,h.hi⟩
 unfold pairT
 rw [PySem.Str.length_append,PySem.Str.length_append,h1,h2]
 rfl
theorem CJ {p:Int×Int} (h:PairOk p):cvF ub [pairD p]=some (.str (pairT p)):=by
 have a1:0<=p.1/\p.1<=9:=⟨h.lo,by have:=h.le;have:=h.hi;omega⟩
 have a2:0<=p.2/\p.2<=9:=⟨by have:=h.le;have:=h.lo;omega,h.hi⟩
 have e1:joinF dash [.lst ([txt p.1,txt p.2].map D.str)]=some (.str (join dash [txt p.1,txt p.2])):=tN (by decide) (by simp) λt ht=>by
  simp at ht
  rcases ht with rfl | rfl
  ·rw [sr a1];omega
  ·rw [sr a2];omega
 rw [join2] at e1
 refine qh rfl λKE k1 _=>?_
 rw [yX,Ae]
 simp [pairD]
 refine qK [p.1,p.2] D.int (λ_=>true) (λi=>.str (txt i)) ?_
 simp
 refine ⟨⟨?_,?_⟩,?_⟩
 ·simp [vg a1]
 ·simp [vg a2]
 ·simp only [map_cons,List.map_nil] at e1
  rw [e1]
  simp
  exact k1 _ ⟨_,rfl⟩
@[simp ↓] theorem Mj {i:Nat}{t:M (List D)}{Γ:Gm}{Q:List D->Gm->Prop}:wp (splS i t) Γ Q↔wp (nm i) Γ λa Z=>wp t Z λds ah=>wp (lft (splitF a ds)) ah Q:=by simp only [splS,qo]
noncomputable def roadB (n:Int):D->Bool
 | .tup [.int a,.int b]=>decide (0<=a)&&(decide (a < b)&&decide (b < n))
 | _=>false
theorem Ik {n:Int}{d:D} (h:roadB n d=true):∃ r:Int×Int,d=pairD r/\0<=r.1/\r.1 < r.2/\r.2 < n:=by
 unfold roadB at h
 split at h
 ·rename_i a b
  simp only [and_eq_true,decide_eq_true_eq] at h
  exact ⟨(a,b),rfl,h.1,h.2.1,h.2.2⟩
 ·cases h
theorem CP {n:Int}:∀ {ds:List D},(∀ d∈ds,roadB n d=true)->∃ rs:List (Int×Int),ds=rs.map pairD/\∀ r∈rs,0<=r.1/\r.1 < r.2/\r.2 < n
 | [],_=>⟨[],rfl,λr h=>by cases h⟩
 | d::ds,h=>by
  obtain ⟨r,rfl,h1⟩:=Ik (h d mem_cons_self)
  obtain ⟨rs,rfl,h2⟩:=CP (ds:=ds) λx hx=>h x (mem_cons_of_mem _ hx)
  refine ⟨r::rs,rfl,λq hq=>?_⟩
  rcases mem_cons.mp hq with rfl | hq
  ·exact h1
  ·exact h2 q hq
theorem w6 (d:D):cvF qR [d]=some (.bl (match d with | .int _=>true | _=>false)):=by
 cases d<;>rfl
theorem Hz (n:Int) (d:D):cvF tU [.int n,d]=some (.bl (roadB n d)):=by
 cases d with
 | tup ds =>
  refine qh rfl λKE k1 _=>?_
  rw [vo]
  refine pR ?_;rintro K hK hR
  by_cases h:ds.length=2
  ·match ds,h with
   | [x,y],_ =>
    simp [dep,qM]
    refine hK _ ?_
    have e1:=w6 x
    have e2:=w6 y
    have i0:atI [x,y] 0=some x:=rfl
    have i1:atI [x,y] 1=some y:=rfl
    have bJ:(∀ a b,x=.int a->y=.int b->False)->KE (.rt (.val (.bl false))) [some (.val (.int n)),some (.val (.tup [x,y]))]:=λz=>by
     have:roadB n (.tup [x,y])=false:=by
      unfold roadB
      split
      ·rename_i z2;cases z2;exact (z _ _ rfl rfl).elim
      ·rfl
     rw [this] at k1
     exact k1 _ ⟨_,rfl⟩
    cases x with
    | int a =>
     cases y with
     | int b =>
      simp [i0,i1,e1,e2]
      by_cases c1:0<=a
      ·by_cases c2:a < b
       ·have:roadB n (.tup [.int a,.int b])=decide (b < n):=by simp [roadB,c1,c2]
        rw [this] at k1
        simp [c1,c2]
        exact k1 _ ⟨_,rfl⟩
       ·have:roadB n (.tup [.int a,.int b])=false:=by simp [roadB,c2]
        rw [this] at k1
        simp [c1,c2]
        exact k1 _ ⟨_,rfl⟩
      ·have:roadB n (.tup [.int a,.int b])=false:=by simp [roadB,c1]
       rw [this] at k1
       simp [c1]
       exact k1 _ ⟨_,rfl⟩
     | non=>simp [i0,i1,e1,e2];exact bJ λa b _ z=>by cases z
     | bl b=>simp [i0,i1,e1,e2];exact bJ λa b _ z=>by cases z
     | str b=>simp [i0,i1,e1,e2];exact bJ λa b _ z=>by cases z
     | tup b=>simp [i0,i1,e1,e2];exact bJ λa b _ z=>by cases z
     | lst b=>simp [i0,i1,e1,e2];exact bJ λa b _ z=>by cases z
    | non=>simp [i0,i1,e1,e2];exact bJ λa b z=>by cases z
    | bl b=>simp [i0,i1,e1,e2];exact bJ λa b z=>by cases z
    | str b=>simp [i0,i1,e1,e2];exact bJ λa b z=>by cases z
    | tup b=>simp [i0,i1,e1,e2];exact bJ λa b z=>by cases z
    | lst b=>simp [i0,i1,e1,e2];exact bJ λa b z=>by cases z
  ·have h':¬ (ds.length:Int)=2:=by omega
   have:roadB n (.tup ds)=false:=by
    unfold roadB
    split
    ·rename_i z;cases z;exact absurd rfl h
    ·rfl
   rw [this] at k1
   simp [dep,qM,h']
   exact hR _ _ (k1 _ ⟨_,rfl⟩)
 | non=>rfl
 | bl b=>rfl
 | str x=>rfl
 | int i=>rfl
 | lst ds=>rfl
noncomputable def allP:List D:=((range 8).flatMap λ(b:Nat)=>(range b).map λ(a:Nat)=>pairD ((a:Int),(b:Int)))
theorem IV:allP.length=28:=rfl
theorem Ks {n:Nat} (n8:n<=8){r:Int×Int} (h:0<=r.1/\r.1 < r.2/\r.2 < n):pairD r∈allP:=by
 unfold allP
 rw [mem_flatMap]
 refine ⟨r.2.toNat,mem_range.mpr (by omega),mem_map.mpr ⟨r.1.toNat,mem_range.mpr (by omega),?_⟩⟩
 have h1:((r.1.toNat:Nat):Int)=r.1:=by omega
 have h2:((r.2.toNat:Nat):Int)=r.2:=by omega
 rw [h1,h2]
section
variable {n:Nat}{rs:List (Int×Int)}
theorem Cu (n8:n<=8) (lt:∀ r∈rs,0<=r.1/\r.1 < r.2/\r.2 < n):(dd (rs.map pairD)).length<=28:=by
 rw [← IV]
 refine uN _ _ (uR _) λx hx=>?_
 obtain ⟨r,hr,rfl⟩:=mem_map.mp (sg hx)
 exact Ks n8 (lt r hr)
theorem HX (n8:n<=8) (lt:∀ r∈rs,0<=r.1/\r.1 < r.2/\r.2 < n):setTF [.tup (rs.map pairD)]=some (sortD (dd (rs.map pairD))):=by
 unfold setTF
 simp only
 rw [if_pos]
 refine ⟨⟨Bs rs,?_,?_,?_,Cu n8 lt⟩,.inl ?_⟩
 ·rw [all_eq_true];intro a ha;obtain ⟨i,_,rfl⟩:=mem_map.mp ha;rfl
 ·rw [all_eq_true];intro a ha;obtain ⟨i,_,rfl⟩:=mem_map.mp ha;rfl
 ·refine le_trans (sj (n:=1) λd hd=>?_) (by omega)
  obtain ⟨p,_,rfl⟩:=mem_map.mp hd
  exact sJ
 ·rw [all_eq_true];intro a ha;obtain ⟨i,_,rfl⟩:=mem_map.mp ha;rfl
theorem BG:∀ {ds:List D},(∀ d∈ds,∃ r,d=pairD r)->∃ qs:List (Int×Int),ds=qs.map pairD
 | [],_=>⟨[],rfl⟩
 | d::ds,h=>by
  obtain ⟨r,rfl⟩:=h d mem_cons_self
  obtain ⟨qs,rfl⟩:=BG (ds:=ds) λx hx=>h x (mem_cons_of_mem _ hx)
  exact ⟨r::qs,rfl⟩
theorem u8:∀ (ps qs:List (Int×Int)),deqA (ps.map pairD) (qs.map pairD)=decide (ps=qs)
 | [],[]=>by simp [deqA]
 | [],q::qs=>by simp [deqA]
 | p::ps,[]=>by simp [deqA]
 | p::ps,q::qs=>by
  rw [map_cons,map_cons,deqA,Cp,u8 ps qs]
  by_cases h1:p=q<;>by_cases h2:ps=qs<;>simp [h1,h2]
theorem JJ (h:deqA (rs.map pairD) (sortD (dd (rs.map pairD)))=true):rs.Nodup/\Rise rs:=by
 have pm:(sortD (dd (rs.map pairD))).Perm (dd (rs.map pairD)):=mergeSort_perm _ _
 obtain ⟨qs,e⟩:=BG (ds:=sortD (dd (rs.map pairD))) λd hd=>by
  obtain ⟨r,_,rfl⟩:=mem_map.mp (sg (pm.mem_iff.mp hd))
  exact ⟨r,rfl⟩
 have up:=tz (dd (rs.map pairD))
 rw [e] at h pm up
 rw [u8,decide_eq_true_eq] at h
 subst h
 refine ⟨?_,up⟩
 have nd:=pm.symm.nodup (uR _)
 exact of_map pairD (λa b h e=>h (by rw [e])) nd
theorem JS {xs ys:List D}:deq (.lst xs) (.lst ys)=deqA xs ys:=by rw [deq]
theorem Ht (n8:n<=8) (lt:∀ r∈rs,0<=r.1/\r.1 < r.2/\r.2 < n) (nd:rs.Nodup):rs.length<=28:=by
 have:=Cu n8 lt
 rw [yJ nd] at this
 simpa using this
end
def IsWeb (d:D):Prop:=∃ n rs,d=webD n rs/\Rise rs/\∃ rk,Web n rs rk
theorem J4 {n m:Nat}{rs qs:List (Int×Int)} (h:webD n rs=webD m qs):n=m/\rs=qs:=by
 unfold webD at h
 injection h with h
 injection h with h1 h2
 injection h1 with h1
 injection h2 with h2 _
 injection h2 with h2
 refine ⟨by omega,?_⟩
 exact (List.map_inj_right λa b=>wo).mp h2
theorem v9 {i j:Nat}{g:List R->Option (R×List R)}{t:M (List D)}{h:M Fl}{Γ:Gm}{c ds:List D}{QS:Fl->Gm->Prop} (hj:Γ[j]?=some (some (.bor c))) (ht:t Γ=some (ds,Γ)) (hi:Nat.blt i Γ.length=true)
  (k:wpB g c ds λr c'=>∃ d,r=.val d/\wp h ((Γ.set j (some (.bor c'))).set i (some (.val d))) QS):wp (seqS (setV i (cbV j g t)) h) Γ QS:=by
 obtain ⟨r,c',e1,d,rfl,k⟩:=k
 have ba:i < Γ.length:=by rw [← Nat.ble_eq_true_of_le (le_refl 0)] at hi;exact Nat.le_of_ble_eq_true hi
 refine pR λK hK _=>⟨.nx,_,?_,hK _ k⟩
 have e2:callB j g t Γ=some (.val d,Γ.set j (some (.bor c'))):=by
  unfold callB mutS
  have:isMut Γ j=true:=by unfold isMut;rw [hj];rfl
  rw [this]
  simp only [bnd,ht,hj,e1,if_true]
 simp [setV,cbV,bnd,lft,asV,e2,putS,ret,ba]
theorem xG {c:M Bool}{A B h:M Fl}{Γ:Gm}{QS:Fl->Gm->Prop} (e:c Γ=some (true,Γ)) (hh:∀ K:Fl->Gm->Prop,(∀ r Z,QS (.rt r) Z->K (.rt r) Z)->wp A Γ K):wp (seqS (ifS c A B) h) Γ QS:=by
 refine pR λK hK hR=>?_
 obtain ⟨a,aa,e1,k⟩:=hh K hR
 exact ⟨a,aa,by simp [ifS,bnd,e,e1],k⟩
theorem rV {c:M Bool}{A h:M Fl}{Γ:Gm}{QS:Fl->Gm->Prop} (e:c Γ=some (false,Γ)) (hh:wp h Γ QS):wp (seqS (ifS c A (ret .nx)) h) Γ QS :=
 pR λK hK hR=>⟨.nx,Γ,by simp [ifS,bnd,e,ret],hK _ hh⟩
theorem xt {i:Nat}{g:M D}{d:D}{h:M Fl}{Γ:Gm}{QS:Fl->Gm->Prop} (e:g Γ=some (d,Γ)) (hi:Nat.blt i Γ.length=true) (hh:wp h (Γ.set i (some (.val d))) QS):wp (seqS (setV i g) h) Γ QS :=
 pR λK hK hR=>⟨.nx,_,by have ba:i < Γ.length:=Nat.le_of_ble_eq_true hi;simp [setV,bnd,e,putS,ret,ba],hK _ hh⟩
open PySem in
noncomputable def isNum (x:Str):Bool:=decide (1<=x.length/\x.length<=4)&&(x.cps.toList.all λc=>decide (48<=c/\c<=57))&&(decide (x.cps.toList.head?≠some 48)||decide (x=⟨#[48]⟩))
open PySem in
noncomputable def numV (x:Str):Int:=((NumText.digitsVal x.cps.toList:Nat):Int)
open PySem in
def Asc (x:Str):Prop:=x.length<=900/\∀ c∈x.cps.toList,c < 128
theorem Asc.le {x:PySem.Str} (h:Asc x):x.length<=1000:=le_trans h.1 (by decide)
noncomputable def nfg (c:Nat):Bool:=!(decide (48<=c/\c<=57))
theorem E6 {c:Nat} (h:c < 128):ninSF (.str ⟨#[c]⟩) (.str "0123456789")=some (.bl (nfg c)):=by
 have all:(range 128).all (λc=>match ninSF (.str ⟨#[c]⟩) (.str "0123456789") with | some (.bl b)=>b == nfg c | _=>false)=true:=by kernel_rfl
 have:=all_eq_true.mp all c (mem_range.mpr h)
 split at this
 ·rename_i b e
  rw [e]
  rw [beq_iff_eq.mp this]
 ·cases this
noncomputable def T1:M Bool:=orT (notT (tst (chn leI leI (ret (.int 1)) (fn1 lenSF (consA (nm 0) nilA)) (ret (.int 4))))) (tst (fn1 anyF (consA (frz (compO 1 (itT (nm 0)) (tgN 0) (ret true) (op2 ninSF (nm 0) (ret (.str "0123456789"))))) nilA)))
noncomputable def T2:M Bool:=andT (tst (op2 (eqF false) (op2 ixSF (nm 0) (ret (.int 0))) (ret (.str "0")))) (tst (op2 (eqF true) (nm 0) (ret (.str "0"))))
open PySem in
noncomputable def bad1 (x:Str):Bool:=!(decide (1<=x.length/\x.length<=4))||x.cps.toList.any nfg
open PySem in
noncomputable def bad2 (x:Str):Bool:=decide (x.cps.toList.head?=some 48)&&!(decide (x=⟨#[48]⟩))
theorem yD (x:PySem.Str):isNum x=(!(bad1 x)&&!(bad2 x)):=by
 unfold isNum bad1 bad2
 rw [Bool.not_or,Bool.not_not,Bool.not_and,Bool.not_not]
 congr 1
 ·congr 1
  rw [List.any_eq_not_all_not,Bool.not_not]
  congr 1
  funext c
  unfold nfg
  rw [Bool.not_not]
 ·congr 1
  rw [decide_not]
theorem DG {x:PySem.Str} (h:Asc x):signsD (.str x)=some (x.cps.toList.map λc=>.str ⟨#[c]⟩):=by
 refine if_pos ?_
 rw [← Array.all_toList,all_eq_true]
 exact λc hc=>decide_eq_true (h.2 c hc)
theorem Dp {x:PySem.Str} (h:Asc x):wp T1 [some (.val (.str x))] λb aa=>b=bad1 x/\aa=[some (.val (.str x))]:=by
 have lx:x.cps.toList.length=x.length:=rfl
 have c8:¬ (1<=x.length/\x.length<=4)->bad1 x=true:=λn=>by
  unfold bad1
  rw [decide_eq_false n];rfl
 unfold T1
 simp [Gz,h.le]
 by_cases l1:1<=x.length
 case neg=>rw [if_neg (by omega)];exact c8 (by omega)
 by_cases l4:x.length<=4
 case neg=>rw [if_pos (by omega),if_neg (by omega)];exact c8 (by omega)
 rw [if_pos (by omega),if_pos (by omega)]
 have b1:bad1 x=x.cps.toList.any nfg:=by
  unfold bad1
  rw [decide_eq_true ⟨l1,l4⟩];rfl
 refine qK x.cps.toList (λc=>.str ⟨#[c]⟩) (λ_=>true) (λc=>.bl (nfg c)) ?_
 simp only [itT,qo,HQ]
 simp only [List.getElem?_cons_zero]
 rw [so (DG h)]
 refine ⟨rfl,by have:=h.1;omega,λc hc a=>?_,?_⟩
 ·have e:=E6 (h.2 c hc)
  simp
  rw [so e]
  exact ⟨rfl,_,rfl⟩
 ·rw [List.filter_eq_self.mpr (λ_ _=>rfl),so FK,b1]
  simp
theorem GH {x:PySem.Str} (h:Asc x) (h1:1<=x.length):wp T2 [some (.val (.str x))] λb aa=>b=bad2 x/\aa=[some (.val (.str x))]:=by
 have z0:(("0":String):PySem.Str)=⟨#[48]⟩:=by decide
 obtain ⟨c,cs,ex⟩:∃ c cs,x.cps.toList=c::cs:=by
  cases e:x.cps.toList with
  | nil =>
   have:x.length=0:=by show x.cps.size=0;rw [← length_toList,e];rfl
   omega
  | cons c cs=>exact ⟨c,cs,rfl⟩
 have e0:ixSF (.str x) (.int 0)=some (.str ⟨#[c]⟩):=by
  unfold ixSF
  dsimp only
  rw [if_pos (by decide)]
  have:x.cps[(0:Int).toNat]?=some c:=by rw [← Array.getElem?_toList,ex];rfl
  rw [this]
 have eh:x.cps.toList.head?=some c:=by rw [ex];rfl
 unfold T2
 simp
 rw [so e0,z0]
 by_cases hc:c=48
 ·subst hc
  have:bad2 x=!(decide (x=⟨#[48]⟩)):=by unfold bad2;rw [eh];rfl
  simp [this]
  by_cases hx:x=⟨#[48]⟩<;>simp [hx]
 ·have:bad2 x=false:=by unfold bad2;rw [eh];simp [hc]
  have ne:¬ ((⟨#[c]⟩:PySem.Str)=⟨#[48]⟩):=λz=>hc (by injection z with z;injection z with z;injection z)
  simp [this,ne]
theorem Av {x:PySem.Str} (h:Asc x):T1 [some (.val (.str x))]=some (bad1 x,[some (.val (.str x))]):=by
 obtain ⟨b,Γ,e,rfl,rfl⟩:=Dp h
 exact e
theorem A8 {x:PySem.Str} (h:Asc x) (h1:bad1 x=false):T2 [some (.val (.str x))]=some (bad2 x,[some (.val (.str x))]):=by
 obtain ⟨b,Γ,e,rfl,rfl⟩:=GH h (by
  unfold bad1 at h1
  simp at h1
  exact h1.1.1)
 exact e
theorem Al {x:PySem.Str} (h1:bad1 x=false):PySem.NumText.AllDigits x.cps.toList/\x.cps.toList≠[]/\x.length<=4:=by
 unfold bad1 at h1
 rw [Bool.or_eq_false_iff] at h1
 have l:=h1.1
 simp at l
 refine ⟨λc hc=>?_,λz=>?_,l.2⟩
 ·have:=List.any_eq_false.mp h1.2 c hc
  unfold nfg at this
  simpa using this
 ·have:x.length=0:=by show x.cps.size=0;rw [← length_toList,z];rfl
  omega
theorem sL {x:PySem.Str} (h:Asc x) (hn:isNum x=true):cvF qA [.str x]=some (.int (numV x)):=by
 rw [yD] at hn
 simp only [and_eq_true,not_eq_true'] at hn
 obtain ⟨d1,d2,d3⟩:=Al hn.1
 have e1:=Av h
 rw [hn.1] at e1
 have e2:=A8 h hn.1
 rw [hn.2] at e2
 have e3:intTF [.str x]=some (.int (numV x)):=by
  unfold intTF
  dsimp only
  rw [if_pos (by omega),PySem.intText_digits d1 d2 (by omega)]
  rfl
 refine qh rfl λKE k1 _=>?_
 refine rV (c:=T1) e1 (rV (c:=T2) e2 ?_)
 simp [e3]
 exact k1 _ ⟨_,rfl⟩
theorem wE {x:PySem.Str} (h:Asc x):rE [.str x]=if isNum x then none else some 0:=by
 have e1:=Av h
 show ((orX (ifX T1 (raX 0 (consA (ret (.str "it is no number of few figures")) nilA)) nvX) (thenX (ifS T1 (λ_=>none) (ret .nx)) (ifX T2 (raX 0 (consA (ret (.str "a 0 stands ahead")) nilA)) nvX))) [some (.val (.str x))]).map (·.1)=_
 rw [yD]
 cases b1:bad1 x with
 | true=>rw [b1] at e1;simp [orX,ifX,bnd,e1,raX,consA,ret,nilA,lft]
 | false =>
  have e2:=A8 h b1
  rw [b1] at e1
  cases b2:bad2 x<;>rw [b2] at e2<;>simp [orX,ifX,bnd,e1,e2,raX,consA,ret,nilA,lft,nvX,thenX,ifS]
section
open PySem
theorem B4 {c:Nat}:∀ (ts:List Str),(∀ t∈ts,∀ y∈t.cps.toList,y∈(Str.join ⟨#[c]⟩ ts).cps.toList)/\(∀ t∈ts,t.length<=(Str.join ⟨#[c]⟩ ts).length)/\ts.length<=(Str.join ⟨#[c]⟩ ts).length+1
 | []=>⟨λt h=>(nomatch h),λt h=>(nomatch h),zero_le _⟩
 | [x]=>⟨λt h y hy=>by rw [mem_singleton.mp h] at hy;exact hy,λt h=>by rw [mem_singleton.mp h];exact le_refl _,by simp⟩
 | x::y::r=>by
  obtain ⟨h1,h2,h3⟩:=B4 (c:=c) (y::r)
  have e:Str.join ⟨#[c]⟩ (x::y::r)=x++⟨#[c]⟩++Str.join ⟨#[c]⟩ (y::r):=rfl
  have l:(Str.join ⟨#[c]⟩ (x::y::r)).length=x.length+1+(Str.join ⟨#[c]⟩ (y::r)).length:=by
   rw [e,Str.length_append,Str.length_append];rfl
  refine ⟨λt ht z hz=>?_,λt ht=>?_,?_⟩
  ·rw [e,qz,qz]
   rcases mem_cons.mp ht with rfl | ht
   ·exact mem_append_left _ (mem_append_left _ hz)
   ·exact mem_append_right _ (h1 t ht z hz)
  ·rw [l]
   rcases mem_cons.mp ht with rfl | ht
   ·omega
   ·have:=h2 t ht;omega
  ·rw [l]
   simp only [length_cons] at h3 ⊢
   omega
theorem qY {x:Str}{c:Nat} (h:Asc x):(∀ w∈Txt.split x ⟨#[c]⟩,Asc w)/\(Txt.split x ⟨#[c]⟩).length<=901:=by
 obtain ⟨h1,h2,h3⟩:=B4 (c:=c) (Txt.split x ⟨#[c]⟩)
 rw [join_split] at h1 h2 h3
 have:=h.1
 exact ⟨λw hw=>⟨le_trans (h2 w hw) h.1,λy hy=>h.2 y (h1 w hw y hy)⟩,by omega⟩
end
theorem ue {x:PySem.Str}{c:Nat} (h:Asc x):splitF (.str x) [.str ⟨#[c]⟩]=some ((PySem.Txt.split x ⟨#[c]⟩).map D.str):=if_pos ⟨rfl,h.le⟩
section
variable {g:List R->Option (R×List R)}{gx:List D->Option Nat}{v:PySem.Str->D}{ok:PySem.Str->Bool}
theorem Bf:∀ (xs:List PySem.Str) (a:Option R) (Γ:Gm),(∀ x∈xs,ok x=true->cvF g [.str x]=some (v x))->(∀ x∈xs,gx [.str x]=if ok x then none else some 0) →
  (xs.all ok=true->compXM (tgN 0) (fn1 (cvF g) (consA (nm 0) nilA)) (fnX gx (consA (nm 0) nilA)) (xs.map D.str) (a::Γ)=none)/\(xs.all ok=false->∃ aa,compXM (tgN 0) (fn1 (cvF g) (consA (nm 0) nilA)) (fnX gx (consA (nm 0) nilA)) (xs.map D.str) (a::Γ)=some (0,aa))
 | [],a,Γ,_,_=>⟨λ_=>rfl,λh=>(nomatch h)⟩
 | x::r,a,Γ,h1,h2=>by
  have e1:tgN 0 (.str x) (a::Γ)=some ((),some (.val (.str x))::Γ):=rfl
  have e2:fnX gx (consA (nm 0) nilA) (some (.val (.str x))::Γ)=(gx [.str x]).map λc=>(c,some (.val (.str x))::Γ):=by
   cases q:gx [.str x]<;>simp [fnX,bnd,consA,nilA,nm,ret,lft,q]
  rw [h2 x mem_cons_self] at e2
  obtain ⟨i1,i2⟩:=Bf r (some (.val (.str x))) Γ (λy hy=>h1 y (mem_cons_of_mem _ hy)) (λy hy=>h2 y (mem_cons_of_mem _ hy))
  rw [map_cons,compXM]
  cases ho:ok x with
  | false =>
   rw [ho] at e2
   refine ⟨λz=>by simp [ho] at z,λ_=>⟨some (.val (.str x))::Γ,?_⟩⟩
   simp [bnd,e1,orX,e2]
  | true =>
   rw [ho] at e2
   have e3:fn1 (cvF g) (consA (nm 0) nilA) (some (.val (.str x))::Γ)=some (v x,some (.val (.str x))::Γ):=by
    simp [fn1,bnd,consA,nilA,nm,ret,lft,h1 x mem_cons_self ho]
   have e4:(bnd (tgN 0 (.str x)) λ_=>orX (fnX gx (consA (nm 0) nilA)) (bnd (fn1 (cvF g) (consA (nm 0) nilA)) λ_=>compXM (tgN 0) (fn1 (cvF g) (consA (nm 0) nilA)) (fnX gx (consA (nm 0) nilA)) (r.map D.str))) (a::Γ)=compXM (tgN 0) (fn1 (cvF g) (consA (nm 0) nilA)) (fnX gx (consA (nm 0) nilA)) (r.map D.str) (some (.val (.str x))::Γ):=by
    simp only [bnd,e1,orX,e2,e3]
    rfl
   rw [e4]
   refine ⟨λz=>i1 (by simpa [ho] using z),λz=>i2 (by simpa [ho] using z)⟩
theorem uI {it:M (List D)}{xs:List PySem.Str}{Γ:Gm} (jX:it Γ=some (xs.map D.str,Γ)) (hl:xs.length<=901) (h1:∀ x∈xs,ok x=true->cvF g [.str x]=some (v x)) (h2:∀ x∈xs,gx [.str x]=if ok x then none else some 0) :
  (xs.all ok=true->compX 1 it (tgN 0) (fn1 (cvF g) (consA (nm 0) nilA)) (fnX gx (consA (nm 0) nilA)) Γ=none)/\(xs.all ok=false->∃ aa,compX 1 it (tgN 0) (fn1 (cvF g) (consA (nm 0) nilA)) (fnX gx (consA (nm 0) nilA)) Γ=some (0,aa)):=by
 obtain ⟨i1,i2⟩:=Bf (g:=g) (gx:=gx) (v:=v) (ok:=ok) xs none Γ h1 h2
 have e:compX 1 it (tgN 0) (fn1 (cvF g) (consA (nm 0) nilA)) (fnX gx (consA (nm 0) nilA)) Γ=inC 1 (compXM (tgN 0) (fn1 (cvF g) (consA (nm 0) nilA)) (fnX gx (consA (nm 0) nilA)) (xs.map D.str)) Γ:=by
  unfold compX
  simp only [bnd,jX]
  rw [if_pos (by rw [length_map];exact le_trans hl (by decide))]
 rw [e]
 unfold inC
 refine ⟨λz=>?_,λz=>?_⟩
 ·rw [show replicate 1 (none:Option R)++Γ=none::Γ from rfl,i1 z]
 ·obtain ⟨aa,q⟩:=i2 z
  refine ⟨aa.drop 1,?_⟩
  rw [show replicate 1 (none:Option R)++Γ=none::Γ from rfl,q]
end
section
open PySem
noncomputable def wds (c:Nat) (x:Str):List Str:=Txt.split x ⟨#[c]⟩
noncomputable def pairOk (x:Str):Bool:=(wds 45 x).all isNum
noncomputable def pairV (x:Str):D:=.tup ((wds 45 x).map λy=>.int (numV y))
end
theorem rO {α:Type}{xs:List α}{p:α->Bool} (h:xs.all p=true):∀ x∈xs,p x=true:=all_eq_true.mp h
theorem wP {x:PySem.Str}{c:Nat}{s:PySem.Str} (hs:s=⟨#[c]⟩) (h:Asc x){Γ:Gm} (oI:Γ[0]?=some (some (.val (.str x)))):itS (frz (splS 0 (consA (ret (.str s)) nilA))) Γ=some ((wds c x).map D.str,Γ):=by
 subst hs
 have e:=ue (c:=c) h
 simp [itS,frz,splS,bnd,nm,oI,consA,nilA,ret,lft,e,seqI,wds]
theorem vX {x:PySem.Str} (h:Asc x) (hp:pairOk x=true):cvF qG [.str x]=some (pairV x):=by
 obtain ⟨a1,a2⟩:=qY (c:=45) h
 refine qh rfl λKE k1 _=>?_
 rw [xH,Ae]
 simp
 refine qK (wds 45 x) (λy=>.str y) (λ_=>true) (λy=>.int (numV y)) ?_
 rw [show dash=⟨#[45]⟩ from rfl]
 simp [ue h]
 refine ⟨rfl,by unfold wds;omega,λy hy=>?_,?_⟩
 ·simp [sL (a1 y hy) (rO hp y hy)]
 ·exact k1 _ ⟨_,rfl⟩
theorem CM {x:PySem.Str} (h:Asc x):su [.str x]=if pairOk x then none else some 0:=by
 obtain ⟨a1,a2⟩:=qY (c:=45) h
 obtain ⟨c1,c2⟩:=uI (g:=qA) (gx:=rE) (v:=λy=>.int (numV y)) (ok:=isNum) (wP (s := "-") (c:=45) (by decide) h (Γ:=[some (.val (.str x))]) rfl) a2 (λy hy ho=>sL (a1 y hy) ho) (λy hy=>wE (a1 y hy))
 show ((vx [some (.val (.str x))]).map (·.1))=_
 rw [vx]
 unfold pairOk
 cases q:(wds 45 x).all isNum with
 | true=>rw [c1 q];rfl
 | false=>obtain ⟨aa,e⟩:=c2 q;rw [e];rfl
section
open PySem
noncomputable def letV (x:Str):D:=.tup ((wds 44 x).map λy=>.int (numV y))
noncomputable def letOk (x:Str):Bool:=(wds 44 x).all isNum&&letB (letV x)
noncomputable def wishV (x:Str):D:=.tup ((wds 44 x).map pairV)
noncomputable def wishOk (x:Str):Bool:=(wds 44 x).all pairOk&&wiB (wishV x)
end
theorem Cf {x:PySem.Str} (h:Asc x) (hp:(wds 44 x).all isNum=true):setV 1 (fn1 tupF (consA (frz (compO 1 (itS (frz (splS 0 (consA (ret (.str ",")) nilA)))) (tgN 0) (ret true) (fn1 (cvF qA) (consA (nm 0) nilA)))) nilA)) [some (.val (.str x)),none]=some (.nx,[some (.val (.str x)),some (.val (letV x))]):=by
 obtain ⟨a1,a2⟩:=qY (c:=44) h
 have w:wp (setV 1 (fn1 tupF (consA (frz (compO 1 (itS (frz (splS 0 (consA (ret (.str ",")) nilA)))) (tgN 0) (ret true) (fn1 (cvF qA) (consA (nm 0) nilA)))) nilA))) [some (.val (.str x)),none] λf aa=>f=.nx/\aa=[some (.val (.str x)),some (.val (letV x))]:=by
  rw [va]
  simp
  refine qK (wds 44 x) (λy=>.str y) (λ_=>true) (λy=>.int (numV y)) ?_
  rw [show comma=⟨#[44]⟩ from rfl]
  simp [ue h]
  refine ⟨rfl,by unfold wds;omega,λy hy=>?_,rfl⟩
  simp [sL (a1 y hy) (rO hp y hy)]
 obtain ⟨f,aa,e,rfl,rfl⟩:=w
 exact e
theorem BN {x:PySem.Str} (h:Asc x):cvF rW [letV x]=some (.bl (letB (letV x))):=BR λds z=>by
 cases z
 rw [length_map]
 exact le_trans (qY (c:=44) h).2 (by decide)
theorem F1 {x:PySem.Str} (h:Asc x) (hp:letOk x=true):cvF vn [.str x]=some (letV x):=by
 unfold letOk at hp
 rw [and_eq_true] at hp
 have hl:=BN h
 rw [hp.2] at hl
 refine qh rfl λKE k1 _=>?_
 rw [yl]
 refine pR λK hK _=>⟨_,_,Cf h hp.1,hK _ ?_⟩
 refine pR λK hK _=>?_
 simp [hl]
 refine hK _ ?_
 exact ⟨_,_,rfl,k1 _ ⟨_,rfl⟩⟩
theorem Fe {x:PySem.Str} (h:Asc x):vj [.str x]=if letOk x then none else some 0:=by
 obtain ⟨a1,a2⟩:=qY (c:=44) h
 obtain ⟨c1,c2⟩:=uI (g:=qA) (gx:=rE) (v:=λy=>.int (numV y)) (ok:=isNum) (wP (s := ",") (c:=44) (by decide) h (Γ:=[some (.val (.str x)),none]) rfl) a2 (λy hy ho=>sL (a1 y hy) ho) (λy hy=>wE (a1 y hy))
 show ((vL [some (.val (.str x)),none]).map (·.1))=_
 rw [vL]
 unfold letOk
 cases q:(wds 44 x).all isNum with
 | false =>
  obtain ⟨aa,e⟩:=c2 q
  simp only [orX,e]
  rfl
 | true =>
  have e1:=Cf h q
  have hl:=BN h
  simp only [orX,c1 q,thenX,bnd,e1,ifX]
  cases b:letB (letV x)<;>rw [b] at hl<;>simp [notT,tst,bnd,fn1,consA,nilA,nm,ret,lft,hl,asB,raX,nvX]
theorem A5 {x:PySem.Str} (h:Asc x) (hp:(wds 44 x).all pairOk=true):setV 1 (fn1 tupF (consA (frz (compO 1 (itS (frz (splS 0 (consA (ret (.str ",")) nilA)))) (tgN 0) (ret true) (fn1 (cvF qG) (consA (nm 0) nilA)))) nilA)) [some (.val (.str x)),none]=some (.nx,[some (.val (.str x)),some (.val (wishV x))]):=by
 obtain ⟨a1,a2⟩:=qY (c:=44) h
 have w:wp (setV 1 (fn1 tupF (consA (frz (compO 1 (itS (frz (splS 0 (consA (ret (.str ",")) nilA)))) (tgN 0) (ret true) (fn1 (cvF qG) (consA (nm 0) nilA)))) nilA))) [some (.val (.str x)),none] λf aa=>f=.nx/\aa=[some (.val (.str x)),some (.val (wishV x))]:=by
  rw [va]
  simp
  refine qK (wds 44 x) (λy=>.str y) (λ_=>true) pairV ?_
  rw [show comma=⟨#[44]⟩ from rfl]
  simp [ue h]
  refine ⟨rfl,by unfold wds;omega,λy hy=>?_,rfl⟩
  simp [vX (a1 y hy) (rO hp y hy)]
 obtain ⟨f,aa,e,rfl,rfl⟩:=w
 exact e
theorem Ck {x:PySem.Str} (h:Asc x):cvF rK [wishV x]=some (.bl (wiB (wishV x))):=zm λds z=>by
 cases z
 rw [length_map]
 exact le_trans (qY (c:=44) h).2 (by decide)
theorem GQ {x:PySem.Str} (h:Asc x) (hp:wishOk x=true):cvF u3 [.str x]=some (wishV x):=by
 unfold wishOk at hp
 rw [and_eq_true] at hp
 have hl:=Ck h
 rw [hp.2] at hl
 refine qh rfl λKE k1 _=>?_
 rw [xB]
 refine pR λK hK _=>⟨_,_,A5 h hp.1,hK _ ?_⟩
 refine pR λK hK _=>?_
 simp [hl]
 refine hK _ ?_
 exact ⟨_,_,rfl,k1 _ ⟨_,rfl⟩⟩
theorem HB {x:PySem.Str} (h:Asc x):vI [.str x]=if wishOk x then none else some 0:=by
 obtain ⟨a1,a2⟩:=qY (c:=44) h
 obtain ⟨c1,c2⟩:=uI (g:=qG) (gx:=su) (v:=pairV) (ok:=pairOk) (wP (s := ",") (c:=44) (by decide) h (Γ:=[some (.val (.str x)),none]) rfl) a2 (λy hy ho=>vX (a1 y hy) ho) (λy hy=>CM (a1 y hy))
 show ((vO [some (.val (.str x)),none]).map (·.1))=_
 rw [vO]
 unfold wishOk
 cases q:(wds 44 x).all pairOk with
 | false =>
  obtain ⟨aa,e⟩:=c2 q
  simp only [orX,e]
  rfl
 | true =>
  have e1:=A5 h q
  have hl:=Ck h
  simp only [orX,c1 q,thenX,bnd,e1,ifX]
  cases b:wiB (wishV x)<;>rw [b] at hl<;>simp [notT,tst,bnd,fn1,consA,nilA,nm,ret,lft,hl,asB,raX,nvX]
theorem Ay {d:D} (hd:∀ m ds,d=.tup [m,.tup ds]->ds.length<=1000){v:Bool} (hv:v=true↔IsWeb d):cvF rz [d]=some (.bl v):=by
 by_cases leg:∃ (n:Nat) (rs:List (Int×Int)),d=webD n rs/\1<=n/\n<=8/\(∀ r∈rs,0<=r.1/\r.1 < r.2/\r.2 < n)/\rs.Nodup/\Rise rs
 ·obtain ⟨n,rs,rfl,n1,n8,lt,nd,ri⟩:=leg
  refine Jf n1 n8 lt nd ri (Ht n8 lt nd) (hv.trans ⟨?_,λh=>⟨n,rs,rfl,ri,h⟩⟩)
  rintro ⟨m,qs,e,_,rk,W⟩
  obtain ⟨rfl,rfl⟩:=J4 e
  exact ⟨rk,W⟩
 ·have vf:v=false:=by
   cases v with
   | false=>rfl
   | true =>
    obtain ⟨n,rs,e,ri,rk,W⟩:=hv.mp rfl
    exact absurd ⟨n,rs,e,W.n1,W.n8,W.lt,W.nd,ri⟩ leg
  subst vf
  refine qh rfl λKE k1 _=>?_
  rw [uT]
  refine pR ?_;rintro K hK hR
  have bJ:∀ Γ,(∃ l,fin (map R.val [d]) Γ=some l)->KE (.rt (.val (.bl false))) Γ:=λΓ h=>k1 Γ h
  have fy:(∀ ds,d≠.tup ds)->wp (ifS (orT (notT (tst (un1 (isiF .tT) (nm 0)))) (tst (op2 (eqF true) (fn1 lenF (consA (nm 0) nilA)) (ret (.int 2))))) (retS (ret (.bl false))) (ret .nx)) [some (.val d),none,none] K:=λnt=>by
   have nt:isiB .tT d=false:=by cases d<;>first | rfl | exact absurd rfl (nt _)
   simp [nt]
   exact hR _ _ (bJ _ ⟨_,rfl⟩)
  cases d with
  | tup es =>
   by_cases h:es.length=2
   ·match es,h with
    | [m,r],_ =>
     clear fy
     simp [dep,qM]
     refine hK _ ?_
     have i0:atI [m,r] 0=some m:=rfl
     have i1:atI [m,r] 1=some r:=rfl
     refine pR ?_;rintro K hK -
     simp [i0]
     refine hK _ ?_
     refine pR ?_;rintro K hK -
     simp [i1]
     refine hK _ ?_
     have e1:=w6 m
     refine pR ?_;rintro K hK hR
     have cM:(∀ i,m≠.int i)->wp (ifS (orT (notT (tst (fn1 (cvF qR) (consA (nm 1) nilA)))) (orT (notT (tst (chn leI leI (ret (.int 1)) (nm 1) (ret (.int 8))))) (notT (tst (un1 (isiF .tT) (nm 2))))))
  (retS (ret (.bl false))) (ret .nx)) [some (.val (.tup [m,r])),some (.val m),some (.val r)] K:=λni=>by
      have ew:cvF qR [m]=some (.bl false):=by rw [e1];cases m<;>first | rfl | exact absurd rfl (ni _)
      simp [ew]
      exact hR _ _ (bJ _ ⟨_,rfl⟩)
     cases m with
     | int i =>
      clear cM
      simp [e1]
      by_cases c1:1<=i
      ·by_cases c2:i<=8
       ·have oJ:(∀ ds,r≠.tup ds)->isiB .tT r=false:=λnt=>by cases r<;>first | rfl | exact absurd rfl (nt _)
        by_cases rt:∃ ds,r=.tup ds
        ·obtain ⟨ds,rfl⟩:=rt
         simp [c1,c2]
         refine hK _ ?_
         have l:=hd _ _ rfl
         refine pR ?_;rintro K hK hR
         simp
         refine qK ds (λx=>x) (λ_=>true) (λx=>.bl (roadB i x)) ?_
         simp
         refine ⟨by omega,λx hx=>by simp [Hz i x],?_⟩
         rw [vh]
         cases al:ds.all (roadB i) with
         | false =>
          have pG:(filter (λ_=>true) ds).all (roadB i)=false:=by simpa using al
          simp [al]
          exact hR _ _ (bJ _ ⟨_,rfl⟩)
         | true =>
          obtain ⟨rs,rfl,lt⟩:=CP (all_eq_true.mp al)
          obtain ⟨n,rfl⟩:∃ n:Nat,i=n:=⟨i.toNat,by omega⟩
          simp [al]
          refine hK _ ?_
          have e2:=HX (n:=n) (by omega) lt
          simp [e2]
          have d1:depA (rs.map pairD)<=1:=sj λd hd=>by
           obtain ⟨p,_,rfl⟩:=mem_map.mp hd
           exact sJ
          refine ⟨.inl (by rw [dep];omega),?_⟩
          rw [JS]
          cases q:deqA (rs.map pairD) (sortD (dd (rs.map pairD))) with
          | true =>
           obtain ⟨nd,ri⟩:=JJ q
           exact absurd ⟨n,rs,rfl,by omega,by omega,lt,nd,ri⟩ leg
          | false =>
           simp
           exact bJ _ ⟨_,rfl⟩
        ·simp [c1,c2,oJ λds z=>rt ⟨ds,z⟩]
         exact hR _ _ (bJ _ ⟨_,rfl⟩)
       ·simp [c1,c2]
        exact hR _ _ (bJ _ ⟨_,rfl⟩)
      ·simp [c1]
       exact hR _ _ (bJ _ ⟨_,rfl⟩)
     | non=>exact cM λi z=>by cases z
     | bl b=>exact cM λi z=>by cases z
     | str b=>exact cM λi z=>by cases z
     | tup b=>exact cM λi z=>by cases z
     | lst b=>exact cM λi z=>by cases z
   ·have h':¬ (es.length:Int)=2:=by omega
    simp [dep,qM,h']
    exact hR _ _ (bJ _ ⟨_,rfl⟩)
  | non=>exact fy λi z=>by cases z
  | bl b=>exact fy λi z=>by cases z
  | str b=>exact fy λi z=>by cases z
  | int b=>exact fy λi z=>by cases z
  | lst b=>exact fy λi z=>by cases z
noncomputable def blank:PySem.Str:=⟨#[32]⟩
theorem AN:((" ":String):PySem.Str)=blank:=by decide
section
open PySem
theorem wB (c:Nat) (x:Str):∃ w ws,wds c x=w::ws:=by
 have p:=split_pos x ⟨#[c]⟩
 unfold wds
 cases e:Txt.split x ⟨#[c]⟩ with
 | nil=>rw [e] at p;cases p
 | cons w ws=>exact ⟨w,ws,rfl⟩
noncomputable def webV (x:Str):D:=.tup [.int (numV ((wds 32 x).headD ⟨#[]⟩)),.tup ((wds 32 x).tail.map pairV)]
noncomputable def wordsOk (x:Str):Bool:=isNum ((wds 32 x).headD ⟨#[]⟩)&&(wds 32 x).tail.all pairOk
open Classical in
noncomputable def webOk (x:Str):Bool:=wordsOk x&&decide (IsWeb (webV x))
end
theorem Ba {x:PySem.Str} (h:Asc x){v:Bool} (hv:v=true↔IsWeb (webV x)):cvF rz [webV x]=some (.bl v):=Ay (λm ds z=>by
 unfold webV at z
 injection z with z
 injection z with _ z
 injection z with z _
 injection z with z
 rw [← z,length_map,List.length_tail]
 have:(wds 32 x).length<=901:=(qY (c:=32) h).2
 omega) hv
theorem Ag {x:PySem.Str} (h:Asc x):setV 1 (frz (splS 0 (consA (ret (.str " ")) nilA))) [some (.val (.str x)),none,none]=some (.nx,[some (.val (.str x)),some (.val (.lst ((wds 32 x).map D.str))),none]):=by
 have w:wp (setV 1 (frz (splS 0 (consA (ret (.str " ")) nilA)))) [some (.val (.str x)),none,none] λf aa=>f=.nx/\aa=[some (.val (.str x)),some (.val (.lst ((wds 32 x).map D.str))),none]:=by
  rw [AN,show blank=⟨#[32]⟩ from rfl]
  simp [ue h]
  rfl
 obtain ⟨f,aa,e,rfl,rfl⟩:=w
 exact e
section
variable {x w:PySem.Str}{ws:List PySem.Str} (h:Asc x) (ew:wds 32 x=w::ws)
include h ew
theorem Cm:Asc w/\(∀ y∈ws,Asc y)/\ws.length<=900:=by
 obtain ⟨a1,a2⟩:=qY (c:=32) h
 have e:PySem.Txt.split x ⟨#[32]⟩=w::ws:=ew
 rw [e] at a1 a2
 exact ⟨a1 w mem_cons_self,λy hy=>a1 y (mem_cons_of_mem _ hy),by simp only [length_cons] at a2;omega⟩
theorem CD:ixF (.lst ((wds 32 x).map D.str)) (.int 0)=some (.str w):=by
 rw [ew]
 show atI _ ((0:Nat):Int)=_
 rw [DL.r8];rfl
theorem zD:cutD ((wds 32 x).map D.str) (some 1) none=ws.map D.str:=by
 have:=BL (ds:=(wds 32 x).map D.str) (n:=1)
 rw [show ((1:Nat):Int)=1 from rfl] at this
 rw [this,ew]
 rfl
theorem Aq (hn:isNum w=true) (hp:ws.all pairOk=true){o:Option R}:setV 2 (tupA (consA (fn1 (cvF qA) (consA (op2 ixF (nm 1) (ret (.int 0))) nilA)) (consA (fn1 tupF (consA (frz (compO 1 (itS (sl3 slF (nm 1) (prt (ret (.int 1))) (ret none))) (tgN 0) (ret true) (fn1 (cvF qG) (consA (nm 0) nilA)))) nilA)) nilA))) [some (.val (.str x)),some (.val (.lst ((wds 32 x).map D.str))),o]=some (.nx,[some (.val (.str x)),some (.val (.lst ((wds 32 x).map D.str))),some (.val (webV x))]):=by
 obtain ⟨a1,a2,a3⟩:=Cm h ew
 have ev:webV x=.tup [.int (numV w),.tup (ws.map pairV)]:=by unfold webV;rw [ew];rfl
 have q:wp (setV 2 (tupA (consA (fn1 (cvF qA) (consA (op2 ixF (nm 1) (ret (.int 0))) nilA)) (consA (fn1 tupF (consA (frz (compO 1 (itS (sl3 slF (nm 1) (prt (ret (.int 1))) (ret none))) (tgN 0) (ret true) (fn1 (cvF qG) (consA (nm 0) nilA)))) nilA)) nilA)))) [some (.val (.str x)),some (.val (.lst ((wds 32 x).map D.str))),o] λf aa=>f=.nx/\aa=[some (.val (.str x)),some (.val (.lst ((wds 32 x).map D.str))),some (.val (webV x))]:=by
  rw [ev]
  simp [CD h ew,sL a1 hn]
  refine qK ws (λy=>.str y) (λ_=>true) pairV ?_
  simp [zD h ew]
  refine ⟨by omega,λy hy=>?_⟩
  simp [vX (a2 y hy) (rO hp y hy)]
 obtain ⟨f,aa,e,rfl,rfl⟩:=q
 exact e
end
theorem IC {x:PySem.Str} (h:Asc x) (hp:webOk x=true):cvF uz [.str x]=some (webV x):=by
 obtain ⟨w,ws,ew⟩:=wB 32 x
 unfold webOk wordsOk at hp
 simp only [and_eq_true,decide_eq_true_eq] at hp
 rw [ew] at hp
 have hl:=Ba h (v:=true) ⟨λ_=>hp.2,λ_=>rfl⟩
 refine qh rfl λKE k1 _=>?_
 rw [ze]
 refine pR λK hK _=>⟨_,_,Ag h,hK _ ?_⟩
 refine pR λK hK _=>⟨_,_,Aq h ew hp.1.1 hp.1.2,hK _ ?_⟩
 refine pR λK hK _=>?_
 simp [hl]
 refine hK _ ?_
 exact ⟨_,_,rfl,k1 _ ⟨_,rfl⟩⟩
theorem GU {x:PySem.Str} (h:Asc x):vG [.str x]=if webOk x then none else some 0:=by
 obtain ⟨w,ws,ew⟩:=wB 32 x
 obtain ⟨a1,a2,a3⟩:=Cm h ew
 have jX:itS (sl3 slF (nm 1) (prt (ret (.int 1))) (ret none)) [some (.val (.str x)),some (.val (.lst ((wds 32 x).map D.str))),none]=some (ws.map D.str,[some (.val (.str x)),some (.val (.lst ((wds 32 x).map D.str))),none]):=by
  have q:wp (itS (sl3 slF (nm 1) (prt (ret (.int 1))) (ret none))) [some (.val (.str x)),some (.val (.lst ((wds 32 x).map D.str))),none] λds aa=>ds=ws.map D.str/\aa=[some (.val (.str x)),some (.val (.lst ((wds 32 x).map D.str))),none]:=by
   simp [zD h ew]
  obtain ⟨f,aa,e,rfl,rfl⟩:=q
  exact e
 obtain ⟨c1,c2⟩:=uI (g:=qG) (gx:=su) (v:=pairV) (ok:=pairOk) jX (by omega) (λy hy ho=>vX (a2 y hy) ho) (λy hy=>CM (a2 y hy))
 have e1:=Ag h
 have i0:=CD h ew
 have n1:fnX rE (consA (op2 ixF (nm 1) (ret (.int 0))) nilA) [some (.val (.str x)),some (.val (.lst ((wds 32 x).map D.str))),none]=(if isNum w then none else some (0,[some (.val (.str x)),some (.val (.lst ((wds 32 x).map D.str))),none])):=by
  have:=wE a1
  cases b:isNum w<;>rw [b] at this<;>simp [fnX,bnd,consA,nilA,op2,nm,ret,lft,i0,this]
 show ((uG [some (.val (.str x)),none,none]).map (·.1))=_
 rw [uG]
 unfold webOk wordsOk
 rw [ew]
 simp only [thenX,bnd,e1,orX,n1]
 cases b:isNum w with
 | false=>simp [b]
 | true =>
  have n2:fn1 (cvF qA) (consA (op2 ixF (nm 1) (ret (.int 0))) nilA) [some (.val (.str x)),some (.val (.lst ((wds 32 x).map D.str))),none]=some (.int (numV w),[some (.val (.str x)),some (.val (.lst ((wds 32 x).map D.str))),none]):=by
   simp [fn1,bnd,consA,nilA,op2,nm,ret,lft,i0,sL a1 b]
  simp only [n2]
  cases q:ws.all pairOk with
  | false =>
   obtain ⟨aa,e⟩:=c2 q
   simp [e,b,q]
  | true =>
   have e2:=Aq h ew b q (o:=none)
   have hl:=λv hv=>Ba h (v:=v) hv
   simp [c1 q,b,q,e2,ifX]
   by_cases iw:IsWeb (webV x)
   ·have hl:=hl true ⟨λ_=>iw,λ_=>rfl⟩
    simp [iw,notT,tst,bnd,fn1,consA,nilA,nm,ret,lft,hl,asB,raX,nvX]
    exact ⟨b,rO q⟩
   ·have hl:=hl false ⟨λz=>(nomatch z),λz=>absurd z iw⟩
    simp [iw,notT,tst,bnd,fn1,consA,nilA,nm,ret,lft,hl,asB,raX,nvX]
theorem wX {g:M Fl}{m:M Nat}{C i:Nat}{Γ:Gm}{K:Fl->Gm->Prop} (hm:m Γ=none) (h:wp g Γ K):wp (tryN g m C i) Γ K:=by
 obtain ⟨a,aa,e,k⟩:=h
 exact ⟨a,aa,by simp only [tryN,hm,e],k⟩
theorem yu {g:M Fl}{m:M Nat}{C i:Nat}{Γ Z:Gm}{K:Fl->Gm->Prop} (hm:m Γ=some (C,Z)) (hi:i < Z.length) (h:K .nx (Z.set i (some (.val .non)))):wp (tryN g m C i) Γ K :=
 ⟨.nx,_,by simp [tryN,hm,bnd,putS,hi,ret],h⟩
noncomputable def orN (b:Bool) (d:D):D:=if b then d else .non
section
variable {x:PySem.Str} (h:Asc x)
include h
theorem wQ {gx:List D->Option Nat}{b:Bool} (e:gx [.str x]=if b then none else some 0) (k:Int):fnX gx (consA (nm 1) nilA) [some (.val (.int k)),some (.val (.str x)),some (.val .non)]=if b then none else some (0,[some (.val (.int k)),some (.val (.str x)),some (.val .non)]):=by
 cases b<;>simp [fnX,bnd,consA,nilA,nm,ret,lft,e]
theorem lawread0:cvF qN [.int 0,.str x]=some (orN (letOk x) (letV x)):=by
 refine qh rfl λKE k1 _=>?_
 rw [tM]
 refine xt rfl rfl ?_
 refine pR λK hK _=>?_
 have e:=wQ h (Fe h) 0
 cases b:letOk x with
 | true =>
  rw [b] at e k1
  refine wX e ?_
  simp [F1 h b,dep]
  refine hK _ ⟨_,_,rfl,k1 _ ⟨_,rfl⟩⟩
 | false =>
  rw [b] at e k1
  exact yu e (by simp) (hK _ ⟨_,_,rfl,k1 _ ⟨_,rfl⟩⟩)
theorem lawread1:cvF qN [.int 1,.str x]=some (orN (wishOk x) (wishV x)):=by
 refine qh rfl λKE k1 _=>?_
 rw [tM]
 refine xt rfl rfl ?_
 refine pR λK hK _=>?_
 have e:=wQ h (HB h) 1
 cases b:wishOk x with
 | true =>
  rw [b] at e k1
  refine wX e ?_
  simp [GQ h b,dep]
  refine hK _ ⟨_,_,rfl,k1 _ ⟨_,rfl⟩⟩
 | false =>
  rw [b] at e k1
  exact yu e (by simp) (hK _ ⟨_,_,rfl,k1 _ ⟨_,rfl⟩⟩)
theorem lawread2:cvF qN [.int 2,.str x]=some (orN (webOk x) (webV x)):=by
 refine qh rfl λKE k1 _=>?_
 rw [tM]
 refine xt rfl rfl ?_
 refine pR λK hK _=>?_
 have e:=wQ h (GU h) 2
 cases b:webOk x with
 | true =>
  rw [b] at e k1
  refine wX e ?_
  simp [IC h b,dep]
  refine hK _ ⟨_,_,rfl,k1 _ ⟨_,rfl⟩⟩
 | false =>
  rw [b] at e k1
  exact yu e (by simp) (hK _ ⟨_,_,rfl,k1 _ ⟨_,rfl⟩⟩)
end
theorem vb {w:PySem.Str} (hn:isNum w=true) (h9:numV w<=9):txt (numV w)=w:=by
 rw [yD] at hn
 simp only [and_eq_true,not_eq_true'] at hn
 obtain ⟨d1,d2,d3⟩:=Al hn.1
 have hb:=hn.2
 unfold bad2 at hb
 unfold numV at h9 ⊢
 cases e:w.cps.toList with
 | nil=>exact absurd e d2
 | cons c r =>
  rw [e] at d1 h9
  have hc:=d1 c mem_cons_self
  cases r with
  | nil =>
   have v:digitsVal [c]=c - 48:=by unfold digitsVal;simp
   rw [v,vt (by omega) (by omega)]
   refine wN ?_
   rw [e]
   simp
   omega
  | cons d r =>
   exfalso
   have c8:10<=digitsVal (c::d::r):=by
    have c0:c≠48:=λz=>by
     rw [e,z] at hb
     simp at hb
     rw [hb] at e
     cases e
    have:=foldl_ge r (((0*10+(c - 48))*10+(d - 48)))
    unfold digitsVal
    rw [foldl_cons,foldl_cons]
    omega
   omega
theorem rT {i:Int} (h:0<=i/\i<=9):isNum (txt i)=true/\numV (txt i)=i:=by
 have:i=0\/i=1\/i=2\/i=3\/i=4\/i=5\/i=6\/i=7\/i=8\/i=9:=by omega
 rcases this with rfl | rfl | rfl | rfl | rfl | rfl | rfl | rfl | rfl | rfl<;>exact ⟨by decide +kernel,by decide +kernel⟩
theorem uJ {i:Int} (h:0<=i/\i<=9):∀ c∈(txt i).cps.toList,c < 128:=by
 rw [vt h.1 h.2]
 simp
 omega
noncomputable def letT (l:List Int):PySem.Str:=join comma (l.map txt)
noncomputable def wishT (w:List (Int×Int)):PySem.Str:=join comma (w.map pairT)
structure Lt (n:Nat) (l:List Int):Prop where
 len:l.length=n
 all:∀ i∈l,0<=i/\i<=9
theorem Gj {p:Int×Int} (h:PairOk p):44∉(pairT p).cps.toList:=by
 have h1:=rn (i:=p.1) ⟨h.lo,by have:=h.le;have:=h.hi;omega⟩ (c:=44) (by omega)
 have h2:=rn (i:=p.2) ⟨by have:=h.le;have:=h.lo;omega,h.hi⟩ (c:=44) (by omega)
 unfold pairT
 rw [qz,qz]
 simp only [mem_append,not_or]
 exact ⟨⟨h1,by decide⟩,h2⟩
theorem xS {n:Nat}{l:List Int} (h:Lt n l) (hn:n<=3):cvF sR [letD l]=some (.str (letT l)):=by
 have e1:joinF comma [.lst ((l.map txt).map D.str)]=some (.str (letT l)):=tN (by decide) (by simp [h.len];omega) λt ht=>by
  obtain ⟨i,hi,rfl⟩:=mem_map.mp ht
  rw [sr (h.all i hi)];omega
 have hl:=h.len
 refine qh rfl λKE k1 _=>?_
 rw [xL,va]
 simp [letD]
 refine qK l D.int (λ_=>true) (λi=>.str (txt i)) ?_
 simp
 refine ⟨by omega,λi hi=>?_,?_⟩
 ·simp [vg (h.all i hi)]
 ·rw [map_map] at e1
  simp only [comp_def] at e1
  rw [e1]
  simp
  exact k1 _ ⟨_,rfl⟩
theorem zc {n:Nat}{w:List (Int×Int)} (h:Wf n w) (hn:n<=3):cvF sY [wishD w]=some (.str (wishT w)):=by
 have e1:joinF comma [.lst ((w.map pairT).map D.str)]=some (.str (wishT w)):=tN (by decide) (by simp [h.len];omega) λt ht=>by
  obtain ⟨i,hi,rfl⟩:=mem_map.mp ht
  rw [we (h.all i hi)];omega
 have hl:=h.len
 refine qh rfl λKE k1 _=>?_
 rw [xa,va]
 simp [wishD]
 refine qK w pairD (λ_=>true) (λp=>.str (pairT p)) ?_
 simp
 refine ⟨by omega,λa b hi=>?_,?_⟩
 ·simp [CJ (h.all (a,b) hi)]
 ·rw [map_map] at e1
  simp only [comp_def] at e1
  rw [e1]
  simp
  exact k1 _ ⟨_,rfl⟩
noncomputable def webL (n:Int) (rs:List (Int×Int)):List PySem.Str:=txt n::rs.map pairT
noncomputable def webT (n:Int) (rs:List (Int×Int)):PySem.Str:=join blank (webL n rs)
theorem Gi {p:Int×Int} (h:PairOk p):32∉(pairT p).cps.toList:=by
 have h1:=rn (i:=p.1) ⟨h.lo,by have:=h.le;have:=h.hi;omega⟩ (c:=32) (by omega)
 have h2:=rn (i:=p.2) ⟨by have:=h.le;have:=h.lo;omega,h.hi⟩ (c:=32) (by omega)
 unfold pairT
 rw [qz,qz]
 simp only [mem_append,not_or]
 exact ⟨⟨h1,by decide⟩,h2⟩
structure Rds (n:Int) (rs:List (Int×Int)):Prop where
 n0:0<=n/\n<=9
 all:∀ p∈rs,PairOk p
 few:rs.length<=10
noncomputable def wbD (n:Int) (rs:List (Int×Int)):D:=.tup [.int n,.tup (rs.map pairD)]
section
variable {n:Int}{rs:List (Int×Int)}
theorem Rds.wl (W:Rds n rs):(webL n rs).length<=20/\∀ t∈webL n rs,t.length<=9:=by
 have:=W.few
 refine ⟨by unfold webL;simp;omega,λt ht=>?_⟩
 rcases mem_cons.mp ht with rfl | ht
 ·rw [sr W.n0];omega
 ·obtain ⟨p,hp,rfl⟩:=mem_map.mp ht
  rw [we (W.all p hp)];omega
theorem xc (W:Rds n rs):cvF sQ [wbD n rs]=some (.str (webT n rs)):=by
 have few:=W.few
 have e1:joinF blank [.lst ((webL n rs).map D.str)]=some (.str (webT n rs)):=tN (by decide) W.wl.1 W.wl.2
 refine qh rfl λKE k1 _=>?_
 rw [xA,AN]
 simp [wbD,vg W.n0]
 refine qK rs pairD (λ_=>true) (λp=>.str (pairT p)) ?_
 simp
 refine ⟨by omega,λa b hi=>?_,?_⟩
 ·simp [CJ (W.all (a,b) hi)]
 ·refine ⟨by omega,?_⟩
  have e2:D.str (txt n)::rs.map (λp=>D.str (pairT p))=(webL n rs).map D.str:=by unfold webL;simp
  rw [e2,e1]
  simp
  exact k1 _ ⟨_,rfl⟩
end
section
open PySem
theorem xk {c:Nat} (hc:c < 128){ts:List Str} (ht:∀ t∈ts,∀ y∈t.cps.toList,y < 128):∀ y∈(Txt.join ⟨#[c]⟩ ts).cps.toList,y < 128:=by
 have e:Txt.join ⟨#[c]⟩ ts=Str.join ⟨#[c]⟩ ts:=StrLaws.glued_eq_join _ _
 rw [e]
 induction ts with
 | nil=>intro y hy;cases hy
 | cons t r ih =>
  cases r with
  | nil=>exact ht t mem_cons_self
  | cons u r =>
   intro y hy
   have e2:Str.join ⟨#[c]⟩ (t::u::r)=t++⟨#[c]⟩++Str.join ⟨#[c]⟩ (u::r):=rfl
   rw [e2,qz,qz] at hy
   rcases mem_append.mp hy with hy | hy
   ·rcases mem_append.mp hy with hy | hy
    ·exact ht t mem_cons_self y hy
    ·simp at hy;omega
   ·exact ih (λt jY=>ht t (mem_cons_of_mem _ jY)) (StrLaws.glued_eq_join _ _) y hy
end
theorem B9 {p:Int×Int} (h:PairOk p):∀ c∈(pairT p).cps.toList,c < 128:=by
 have h1:=uJ (i:=p.1) ⟨h.lo,by have:=h.le;have:=h.hi;omega⟩
 have h2:=uJ (i:=p.2) ⟨by have:=h.le;have:=h.lo;omega,h.hi⟩
 unfold pairT
 rw [qz,qz]
 intro c hc
 rcases mem_append.mp hc with hc | hc
 ·rcases mem_append.mp hc with hc | hc
  ·exact h1 c hc
  ·simp [dash] at hc;omega
 ·exact h2 c hc
theorem sV {p:Int×Int} (h:PairOk p):wds 45 (pairT p)=[txt p.1,txt p.2]/\pairOk (pairT p)=true/\pairV (pairT p)=pairD p/\isNum (pairT p)=false:=by
 have a1:0<=p.1/\p.1<=9:=⟨h.lo,by have:=h.le;have:=h.hi;omega⟩
 have a2:0<=p.2/\p.2<=9:=⟨by have:=h.le;have:=h.lo;omega,h.hi⟩
 have e:wds 45 (pairT p)=[txt p.1,txt p.2]:=by
  rw [← join2]
  exact tZ (by simp) λt ht=>by
   simp at ht
   rcases ht with rfl | rfl
   ·exact rn a1 (by omega)
   ·exact rn a2 (by omega)
 refine ⟨e,?_,?_,?_⟩
 ·unfold pairOk;rw [e];simp [(rT a1).1,(rT a2).1]
 ·unfold pairV pairD;rw [e];simp [(rT a1).2,(rT a2).2]
 ·unfold isNum
  have:((pairT p).cps.toList.all λc=>decide (48<=c/\c<=57))=false:=by
   rw [List.all_eq_false]
   refine ⟨45,?_,by decide⟩
   unfold pairT
   rw [qz,qz]
   simp [dash]
  rw [this]
  simp
section
open PySem
theorem uM (c:Nat) (x:Str):Txt.join ⟨#[c]⟩ (wds c x)=x:=(StrLaws.glued_eq_join _ _).trans (join_split _ _)
end
theorem vw {x:PySem.Str}{ts:List PySem.Str} (hx:x.length<=1) (hl:ts.length<=20) (ht:∀ t∈ts,t.length<=9):(join x ts).length<=900:=by
 have e:join x ts=PySem.Str.join x ts:=glued_eq_join _ _
 have h1:ts.length*x.length<=20*1:=Nat.mul_le_mul hl hx
 have h2:=PySem.StrLaws.join_length_le x ts
 have h3:=sumLen_le ts ht
 rw [e]
 omega
section
variable {n:Nat}{l:List Int} (h:Lt n l) (h1:1<=n) (hn:n<=3)
include h h1 hn
theorem Bg:l≠[]:=λz=>by rw [z] at h;have:=h.len;simp at this;omega
theorem FE:wds 44 (letT l)=l.map txt:=tZ (by simpa using Bg h h1 hn) λt ht=>by
 obtain ⟨i,hi,rfl⟩:=mem_map.mp ht
 exact rn (h.all i hi) (by omega)
theorem DH:Asc (letT l):=⟨vw (by decide) (by simp [h.len];omega) λt ht=>by
  obtain ⟨i,hi,rfl⟩:=mem_map.mp ht
  rw [sr (h.all i hi)];omega,xk (by decide) λt ht=>by
  obtain ⟨i,hi,rfl⟩:=mem_map.mp ht
  exact uJ (h.all i hi)⟩
theorem yh:letOk (letT l)=true/\letV (letT l)=letD l/\wishOk (letT l)=false/\letB (letD l)=true:=by
 have e:=FE h h1 hn
 have ev:letV (letT l)=letD l:=by
  unfold letV letD
  rw [e,map_map]
  congr 1
  refine map_congr_left λi hi=>?_
  show D.int (numV (txt i))=.int i
  rw [(rT (h.all i hi)).2]
 have lb:letB (letD l)=true:=by
  unfold letB letD
  have:=h.len
  simp [figB]
  exact ⟨⟨by omega,by omega⟩,λi hi=>h.all i hi⟩
 refine ⟨?_,ev,?_,lb⟩
 ·unfold letOk
  rw [ev,lb,Bool.and_true,e,all_map,all_eq_true]
  exact λi hi=>(rT (h.all i hi)).1
 ·unfold wishOk wishV
  rw [e]
  obtain ⟨i,r,rfl⟩:=List.exists_cons_of_ne_nil (Bg h h1 hn)
  have hi:=h.all i mem_cons_self
  have p:prB (pairV (txt i))=false:=by
   have w:wds 45 (txt i)=[txt i]:=by
    have:=tZ (c:=45) (ts:=[txt i]) (by simp) λt ht=>by rw [mem_singleton.mp ht];exact rn hi (by omega)
    exact this
   unfold pairV
   rw [w]
   rfl
  have:wiB (.tup (((i::r).map txt).map pairV))=false:=by
   unfold wiB
   simp [p]
  rw [this,Bool.and_false]
end
section
variable {n:Nat}{w:List (Int×Int)} (h:Wf n w) (h1:1<=n) (hn:n<=3)
include h h1 hn
theorem AT:w≠[]:=λz=>by rw [z] at h;have:=h.len;simp at this;omega
theorem JY:wds 44 (wishT w)=w.map pairT:=tZ (by simpa using AT h h1 hn) λt ht=>by
 obtain ⟨p,hp,rfl⟩:=mem_map.mp ht
 exact Gj (h.all p hp)
theorem FG:Asc (wishT w):=⟨vw (by decide) (by simp [h.len];omega) λt ht=>by
  obtain ⟨i,hi,rfl⟩:=mem_map.mp ht
  rw [we (h.all i hi)];omega,xk (by decide) λt ht=>by
  obtain ⟨i,hi,rfl⟩:=mem_map.mp ht
  exact B9 (h.all i hi)⟩
theorem FM {p:Int×Int} (hp:PairOk p):prB (pairD p)=true:=by
 have:=hp.lo
 have:=hp.le
 have:=hp.hi
 unfold pairD prB figB
 simp
 omega
theorem w8:wishOk (wishT w)=true/\wishV (wishT w)=wishD w/\letOk (wishT w)=false/\wiB (wishD w)=true:=by
 have e:=JY h h1 hn
 have ev:wishV (wishT w)=wishD w:=by
  unfold wishV wishD
  rw [e,map_map]
  congr 1
  exact map_congr_left λp hp=>(sV (h.all p hp)).2.2.1
 have lb:wiB (wishD w)=true:=by
  unfold wiB wishD
  have:=h.len
  simp only [and_eq_true,decide_eq_true_eq,length_map,all_map,all_eq_true]
  exact ⟨⟨by omega,by omega⟩,λp hp=>FM h h1 hn (h.all p hp)⟩
 refine ⟨?_,ev,?_,lb⟩
 ·unfold wishOk
  rw [ev,lb,Bool.and_true,e,all_map,all_eq_true]
  exact λp hp=>(sV (h.all p hp)).2.1
 ·unfold letOk
  rw [e]
  obtain ⟨p,r,rfl⟩:=List.exists_cons_of_ne_nil (AT h h1 hn)
  rw [map_cons,all_cons,(sV (h.all p mem_cons_self)).2.2.2]
  rfl
end
theorem JX {y:PySem.Str}{p:Int×Int} (hy:pairOk y=true) (e:pairV y=pairD p) (hp:PairOk p):pairT p=y:=by
 have a1:0<=p.1/\p.1<=9:=⟨hp.lo,by have:=hp.le;have:=hp.hi;omega⟩
 have a2:0<=p.2/\p.2<=9:=⟨by have:=hp.le;have:=hp.lo;omega,hp.hi⟩
 have j:=uM 45 y
 unfold pairV pairD at e
 unfold pairOk at hy
 injection e with e
 cases q:wds 45 y with
 | nil=>rw [q] at e;cases e
 | cons u r =>
  cases r with
  | nil=>rw [q] at e;have:=congrArg length e;simp at this
  | cons v r =>
   cases r with
   | cons _ _=>rw [q] at e;have:=congrArg length e;simp at this
   | nil =>
    rw [q] at e hy j
    simp at e hy
    rw [← join2,← e.1,← e.2,vb hy.1 (by rw [e.1];exact a1.2),vb hy.2 (by rw [e.2];exact a2.2)]
    exact j
theorem wD:∀ {ys:List PySem.Str}{ps:List (Int×Int)},(∀ y∈ys,pairOk y=true)->ys.map pairV=ps.map pairD->(∀ p∈ps,PairOk p)->ps.map pairT=ys
 | [],[],_,_,_=>rfl
 | [],_::_,_,e,_=>nomatch e
 | _::_,[],_,e,_=>nomatch e
 | y::ys,p::ps,h,e,hp=>by
  rw [map_cons,map_cons] at e
  injection e with e1 e2
  rw [map_cons,JX (h y mem_cons_self) e1 (hp p mem_cons_self),wD (λz hz=>h z (mem_cons_of_mem _ hz)) e2 (λz hz=>hp z (mem_cons_of_mem _ hz))]
theorem Ec {d:D} (h:prB d=true):∃ p,d=pairD p/\PairOk p:=by
 unfold prB at h
 split at h
 ·rename_i a b
  simp [figB] at h
  exact ⟨(a,b),rfl,⟨h.1.1,h.2.2,h.2.1.2⟩⟩
 ·cases h
theorem zg:∀ {ds:List D},(∀ d∈ds,prB d=true)->∃ ps:List (Int×Int),ds=ps.map pairD/\∀ p∈ps,PairOk p
 | [],_=>⟨[],rfl,λp h=>(nomatch h)⟩
 | d::ds,h=>by
  obtain ⟨p,rfl,hp⟩:=Ec (h d mem_cons_self)
  obtain ⟨ps,rfl,eU⟩:=zg (ds:=ds) λx hx=>h x (mem_cons_of_mem _ hx)
  refine ⟨p::ps,rfl,λq hq=>?_⟩
  rcases mem_cons.mp hq with rfl | hq
  ·exact hp
  ·exact eU q hq
theorem Dm {x:PySem.Str} (hp:letOk x=true):cvF sR [letV x]=some (.str x):=by
 unfold letOk at hp
 rw [and_eq_true] at hp
 have lb:=hp.2
 unfold letB letV at lb
 simp [figB] at lb
 have ev:letV x=letD ((wds 44 x).map numV):=by unfold letV letD;rw [map_map];rfl
 have L:Lt (wds 44 x).length ((wds 44 x).map numV):=⟨by simp,λi hi=>by
  obtain ⟨y,hy,rfl⟩:=mem_map.mp hi
  exact lb.2 y hy⟩
 rw [ev,xS L (by omega)]
 congr 2
 unfold letT
 rw [map_map]
 have:(wds 44 x).map (txt∘numV)=wds 44 x:=by
  have:(wds 44 x).map (txt∘numV)=(wds 44 x).map id:=map_congr_left λy hy=>vb (rO hp.1 y hy) (lb.2 y hy).2
  rw [this,List.map_id]
 rw [this]
 exact uM 44 x
theorem Hb {x:PySem.Str} (hp:wishOk x=true):cvF sY [wishV x]=some (.str x):=by
 unfold wishOk at hp
 rw [and_eq_true] at hp
 have lb:=hp.2
 unfold wiB wishV at lb
 simp only [and_eq_true,decide_eq_true_eq,length_map,all_eq_true] at lb
 obtain ⟨ps,e,eU⟩:=zg lb.2
 have lw:(wds 44 x).length=ps.length:=by have:=congrArg length e;simpa using this
 have ev:wishV x=wishD ps:=by unfold wishV wishD;rw [e]
 have b:=wD (rO hp.1) e eU
 rw [ev,zc (n:=ps.length) ⟨rfl,eU⟩ (by omega)]
 congr 2
 unfold wishT
 rw [b]
 exact uM 44 x
theorem Web.rds {n:Nat}{rs:List (Int×Int)}{rk:Int->Nat} (W:Web n rs rk):Rds n rs:=by
 have:=W.n8
 have:=W.few
 refine ⟨by omega,λp hp=>?_,by omega⟩
 have:=W.lt p hp
 exact ⟨by omega,by omega,by omega⟩
theorem Hn {x:PySem.Str} (hp:webOk x=true):cvF sQ [webV x]=some (.str x):=by
 obtain ⟨w,ws,ew⟩:=wB 32 x
 have j:=uM 32 x
 unfold webOk wordsOk at hp
 simp only [and_eq_true,decide_eq_true_eq] at hp
 obtain ⟨⟨h1,h2⟩,n,rs,e,_,rk,W⟩:=hp
 have R:=W.rds
 rw [ew] at h1 h2 j
 rw [show webV x=wbD n rs from e,xc R]
 congr 2
 unfold webV webD at e
 rw [ew] at e
 injection e with e
 injection e with e1 e2
 injection e1 with e1
 injection e2 with e2 _
 injection e2 with e2
 have h1:isNum w=true:=h1
 have e1:numV w=(n:Int):=e1
 unfold webT webL
 rw [wD (rO h2) e2 R.all,← e1,vb h1 (by rw [e1];exact R.n0.2)]
 exact j
section
variable {n:Nat}{rs:List (Int×Int)}{rk:Int->Nat}
theorem ym {n:Int} (R:Rds n rs):wds 32 (webT n rs)=webL n rs:=tZ (by unfold webL;simp) λt ht=>by
 rcases mem_cons.mp ht with rfl | ht
 ·exact rn R.n0 (by omega)
 ·obtain ⟨p,hp,rfl⟩:=mem_map.mp ht
  exact Gi (R.all p hp)
theorem Ja {n:Int} (R:Rds n rs):Asc (webT n rs):=⟨vw (by decide) R.wl.1 R.wl.2,xk (by decide) λt ht=>by
 rcases mem_cons.mp ht with rfl | ht
 ·exact uJ R.n0
 ·obtain ⟨p,hp,rfl⟩:=mem_map.mp ht
  exact B9 (R.all p hp)⟩
theorem Ft (W:Web n rs rk) (ri:Rise rs):webOk (webT n rs)=true/\webV (webT n rs)=webD n rs:=by
 have R:=W.rds
 have e:=ym R
 have ev:webV (webT n rs)=webD n rs:=by
  unfold webV webD webL at *
  rw [e]
  show D.tup [.int (numV (txt n)),.tup ((rs.map pairT).map pairV)]=_
  rw [(rT R.n0).2,map_map]
  congr 4
  exact map_congr_left λp hp=>(sV (R.all p hp)).2.2.1
 refine ⟨?_,ev⟩
 unfold webOk wordsOk
 simp only [and_eq_true,decide_eq_true_eq]
 rw [ev,e]
 refine ⟨⟨(rT R.n0).1,?_⟩,n,rs,rfl,ri,rk,W⟩
 show (rs.map pairT).all pairOk=true
 rw [all_map,all_eq_true]
 exact λp hp=>(sV (R.all p hp)).2.1
end
theorem EB {n m:Nat}{l k:List Int} (h:Lt n l) (h1:1<=n) (hn:n<=3) (h':Lt m k) (jZ:1<=m) (dy:m<=3) (e:letT l=letT k):l=k:=by
 have a:=yh h h1 hn
 have b:=yh h' jZ dy
 rw [e,b.2.1] at a
 have c:=a.2.1
 unfold letD at c
 injection c with c
 exact (List.map_inj_right (λx y z=>by injection z)).mp c.symm
theorem Do {n m:Nat}{l k:List (Int×Int)} (h:Wf n l) (h1:1<=n) (hn:n<=3) (h':Wf m k) (jZ:1<=m) (dy:m<=3) (e:wishT l=wishT k):l=k:=by
 have a:=w8 h h1 hn
 have b:=w8 h' jZ dy
 rw [e,b.2.1] at a
 have c:=a.2.1
 unfold wishD at c
 injection c with c
 exact (List.map_inj_right (λx y z=>wo z)).mp c.symm
theorem G2 {n:Int}{l k:List (Int×Int)} (h:Rds n l) (h':Rds n k) (e:webT n l=webT n k):l=k:=by
 have a:=ym h
 rw [e,ym h'] at a
 unfold webL at a
 injection a with _ a
 have f:∀ {l:List (Int×Int)},Rds n l->l.map pairD=(l.map pairT).map pairV:=λ{l} r=>by
  rw [map_map]
  exact (map_congr_left λp hp=>(sV (r.all p hp)).2.2.1).symm
 exact (List.map_inj_right (f:=pairD) (λx y z=>wo z)).mp (by rw [f h,f h',a])
theorem Bb {c:List D}{f:Nat}{Q:R->List D->Prop} (hc:PotOk c) (hf:f<=3) (k:∀ l c',Lt f l->PotOk c'->Q (.val (letD l)) c'):wpB ux c [.int f] Q:=by
 refine rF rfl λKE hE _=>?_
 rw [wn]
 simp
 refine xx (λi af Γ=>∃ (c:List D) (l:List Int),PotOk c/\af=l.map D.int/\l.length=i/\(∀ x∈l,0<=x/\x<=9)/\Γ=[some (.bor c),some (.val (.int f))]) ?_
 simp
 refine ⟨by omega,by omega,hc,?_,?_⟩
 ·rintro i dd af ah - c1 j0 l rfl hl hb rfl
  simp [isMut,R.mut]
  refine qH j0 (by omega) (by omega) λx c2 oK pH cz=>?_
  refine ⟨_,_,rfl,_,_,rfl,c2,cz,l++[x],by simp,by simp [hl],λy hy=>?_,rfl⟩
  rcases mem_append.mp hy with hy | hy
  ·exact hb y hy
  ·rw [mem_singleton.mp hy];exact ⟨oK,by omega⟩
 ·rintro af ah c hc l rfl hl hb rfl
  exact hE _ _ _ ⟨_,rfl⟩ (k l c ⟨by simpa using hl,hb⟩ hc)
theorem HY {c:List D}{Q:R->List D->Prop} (hc:PotOk c) (k:∀ p c',PairOk p->PotOk c'->Q (.val (pairD p)) c'):wpB uS c [.int 10] Q:=by
 refine rF rfl λKE hE _=>?_
 rw [wz]
 refine pR ?_;rintro K hK -
 simp [isMut,R.mut]
 refine qH hc (by omega) (by omega) λway c1 pI pJ hc=>?_
 simp
 refine hK _ ?_
 refine pR ?_;rintro K hK -
 simp [isMut,R.mut]
 refine qH hc (by omega) (by omega) λlow c2 cN jg hc=>?_
 simp
 refine hK _ ?_
 refine pR ?_;rintro K hK -
 simp [isMut,R.mut]
 refine qH hc (by omega) (by omega) λmore c3 fh dh hc=>?_
 simp
 refine hK _ ?_
 have wy:way=0\/way=1\/way=2\/way=3:=by omega
 rcases wy with rfl | rfl | rfl | rfl
 ·exact ⟨_,_,rfl,hE _ _ _ ⟨_,rfl⟩ (k (0,9) c3 ⟨by simp,by simp,by simp⟩ hc)⟩
 ·exact ⟨_,_,rfl,hE _ _ _ ⟨_,rfl⟩ (k (low,low) c3 ⟨cN,Int.le_refl _,by simp only;omega⟩ hc)⟩
 ·exact ⟨_,_,rfl,hE _ _ _ ⟨_,rfl⟩ (k (low,low+more) c3 ⟨cN,by simp only;omega,by simp only;omega⟩ hc)⟩
 ·refine ⟨_,_,rfl,hE _ _ _ ⟨_,rfl⟩ (k (low,if low+2 < 9 then low+2 else 9) c3 ⟨cN,?_,?_⟩ hc)⟩
  ·simp only;split<;>omega
  ·simp only;split<;>omega
theorem zy {c:List D}{f:Nat}{Q:R->List D->Prop} (hc:PotOk c) (hf:f<=3) (k:∀ w c',Wf f w->PotOk c'->Q (.val (wishD w)) c'):wpB tG c [.int f,.int 10] Q:=by
 refine rF rfl λKE hE _=>?_
 rw [wC]
 simp
 refine xx (λi af Γ=>∃ (c:List D) (w:List (Int×Int)),PotOk c/\af=w.map pairD/\Wf i w/\Γ=[some (.bor c),some (.val (.int f)),some (.val (.int 10))]) ?_
 simp
 refine ⟨by omega,by omega,⟨hc,rfl,by simp⟩,?_,?_⟩
 ·rintro i dd af ah - c1 j0 w rfl hw rfl
  simp [isMut,R.mut]
  refine HY j0 λp c2 hp cz=>?_
  exact ⟨_,_,rfl,_,_,rfl,c2,cz,w++[p],by simp,hw.app hp,rfl⟩
 ·rintro af ah c hc w rfl hw rfl
  exact hE _ _ _ ⟨_,rfl⟩ (k w c (by simpa using hw) hc)
structure Kd (way:Int) (d:D) (x:PySem.Str):Prop where
 shown:cvF qS [.int way,d]=some (.str x)
 read:cvF qN [.int way,.str x]=some d
 isit:cvF rY [.int way,d]=some (.bl true)
 low:dep d<=5
 cross:way < 2->cvF qN [.int (1 - way),.str x]=some .non
 other:∀ (c:List D) (Q:R->List D->Prop),PotOk c->(∀ o t c',cvF qS [.int way,o]=some (.str t)->(t == x)=deq o d->dep o<=5->PotOk c'->Q (.val o) c')->wpB vc c [.int way,d] Q
theorem shown0 {d:D}{x:PySem.Str} (h:cvF sR [d]=some (.str x)):cvF qS [.int 0,d]=some (.str x):=by
 refine qh rfl λKE k1 _=>?_
 rw [uf]
 refine xG rfl λK hR=>?_
 simp [h]
 exact hR _ _ (k1 _ ⟨_,rfl⟩)
theorem shown1 {d:D}{x:PySem.Str} (h:cvF sY [d]=some (.str x)):cvF qS [.int 1,d]=some (.str x):=by
 refine qh rfl λKE k1 _=>?_
 rw [uf]
 refine rV rfl ?_
 simp [h,dep]
 exact k1 _ ⟨_,rfl⟩
theorem shown2 {d:D}{x:PySem.Str} (h:cvF sQ [d]=some (.str x)):cvF qS [.int 2,d]=some (.str x):=by
 refine qh rfl λKE k1 _=>?_
 rw [uf]
 refine rV rfl ?_
 simp [h,dep]
 exact k1 _ ⟨_,rfl⟩
theorem isit0 {d:D}{b:Bool} (h:cvF rW [d]=some (.bl b)):cvF rY [.int 0,d]=some (.bl b):=by
 refine qh rfl λKE k1 _=>?_
 rw [ul]
 refine xG rfl λK hR=>?_
 simp [h]
 exact hR _ _ (k1 _ ⟨_,rfl⟩)
theorem isit1 {d:D}{b:Bool} (h:cvF rK [d]=some (.bl b)):cvF rY [.int 1,d]=some (.bl b):=by
 refine qh rfl λKE k1 _=>?_
 rw [ul]
 refine rV rfl ?_
 simp [h,dep]
 exact k1 _ ⟨_,rfl⟩
theorem isit2 {d:D}{b:Bool} (h:cvF rz [d]=some (.bl b)):cvF rY [.int 2,d]=some (.bl b):=by
 refine qh rfl λKE k1 _=>?_
 rw [ul]
 refine rV rfl ?_
 simp [h,dep]
 exact k1 _ ⟨_,rfl⟩
theorem BH (l:List Int):dep (letD l)<=5:=by
 unfold letD
 rw [dep]
 have:depA (l.map D.int)<=0:=B3
 omega
theorem CI (ps:List (Int×Int)):depA (ps.map pairD)<=2:=sj λd hd=>by
 obtain ⟨p,_,rfl⟩:=mem_map.mp hd
 exact le_trans sJ (by decide)
theorem Aa (w:List (Int×Int)):dep (wishD w)<=5:=by
 unfold wishD
 rw [dep]
 have:=CI w
 omega
theorem A1 (n:Int) (rs:List (Int×Int)):dep (wbD n rs)<=5:=by
 have:=CI rs
 unfold wbD
 simp [dep,depA]
 omega
theorem zo:∀ l k:List Int,deqA (l.map D.int) (k.map D.int)=decide (l=k)
 | [],[]=>by simp [deqA]
 | [],_::_=>by simp [deqA]
 | _::_,[]=>by simp [deqA]
 | a::l,b::k=>by
  rw [map_cons,map_cons,deqA,zo l k,qM]
  by_cases e:a=b<;>by_cases e2:l=k<;>simp [e,e2]
theorem Hf (l k:List Int):deq (letD l) (letD k)=decide (l=k):=by
 unfold letD;rw [deq,zo]
theorem EC (l k:List (Int×Int)):deq (wishD l) (wishD k)=decide (l=k):=by
 unfold wishD;rw [deq,u8]
theorem JG (n:Int) (l k:List (Int×Int)):deq (wbD n l) (wbD n k)=decide (l=k):=by
 unfold wbD
 rw [deq,deqA,deqA,deqA,qM,deq,u8]
 simp
theorem sD {g:M D}{gl gh:M (Option Int)}{Γ:Gm}{ds:List D}{lo hi:Option Int}{Q:D->Gm->Prop} (eg:g Γ=some (.tup ds,Γ)) (el:gl Γ=some (lo,Γ)) (eh:gh Γ=some (hi,Γ)) (q:Q (.tup (cutD ds lo hi)) Γ):wp (altM (sl3 slF g gl gh) (sl3 slWF g gl gh)) Γ Q:=by
 have go:∀ F:D->Option Int->Option Int->Option D,sl3 F g gl gh Γ=lft (F (.tup ds) lo hi) Γ:=λF=>by
  unfold sl3 bnd
  rw [eg]
  dsimp only
  rw [el]
  dsimp only
  rw [eh]
 by_cases h:HT.sIx ds.length 0 lo=0/\HT.sIx ds.length ds.length hi=ds.length
 ·have e1:slF (.tup ds) lo hi=none:=by unfold slF;simp only;rw [if_pos h]
  have e2:slWF (.tup ds) lo hi=some (.tup ds):=by unfold slWF;simp only;rw [if_pos h]
  have e3:cutD ds lo hi=ds:=by
   unfold cutD
   rw [h.1,h.2]
   simp
  rw [e3] at q
  refine ⟨_,_,?_,q⟩
  unfold altM
  rw [go,go,e1,e2]
  rfl
 ·have e1:slF (.tup ds) lo hi=some (.tup (cutD ds lo hi)):=by unfold slF;simp only;rw [if_neg h]
  refine ⟨_,_,?_,q⟩
  unfold altM
  rw [go,e1]
  rfl
theorem wx (ds:List D){i:Int} (h:0<=i):cutD ds none (some i)=ds.take i.toNat:=by
 have:=CO (ds:=ds) (n:=i.toNat)
 rwa [Int.toNat_of_nonneg h] at this
theorem xN (ds:List D){i:Int} (h:0<=i):cutD ds (some i) none=ds.drop i.toNat:=by
 have:=BL (ds:=ds) (n:=i.toNat)
 rwa [Int.toNat_of_nonneg h] at this
theorem Lt.mix {n i:Nat}{l k:List Int} (h:Lt n l) (hk:Lt 1 k) (hi:i < n):Lt n (l.take i++k++l.drop (i+1)):=by
 have:=h.len
 have:=hk.len
 refine ⟨by simp;omega,λx hx=>?_⟩
 rcases mem_append.mp hx with hx | hx
 ·rcases mem_append.mp hx with hx | hx
  ·exact h.all x (mem_of_mem_take hx)
  ·exact hk.all x hx
 ·exact h.all x (mem_of_mem_drop hx)
theorem Wf.mix {n i:Nat}{l k:List (Int×Int)} (h:Wf n l) (hk:Wf 1 k) (hi:i < n):Wf n (l.take i++k++l.drop (i+1)):=by
 have:=h.len
 have:=hk.len
 refine ⟨by simp;omega,λx hx=>?_⟩
 rcases mem_append.mp hx with hx | hx
 ·rcases mem_append.mp hx with hx | hx
  ·exact h.all x (mem_of_mem_take hx)
  ·exact hk.all x hx
 ·exact h.all x (mem_of_mem_drop hx)
theorem xi {a b:PySem.Str}{p:Prop} [Decidable p] (h1:a=b->p) (h2:p->a=b):(a == b)=decide p:=by
 rw [Bool.eq_iff_iff,beq_iff_eq,decide_eq_true_eq]
 exact ⟨h1,h2⟩
theorem kd0 {n:Nat}{l:List Int} (h:Lt n l) (h1:1<=n) (hn:n<=3):Kd 0 (letD l) (letT l):=by
 obtain ⟨b1,b2,b3,b4⟩:=yh h h1 hn
 have a:=DH h h1 hn
 have hl:=h.len
 refine ⟨shown0 (xS h hn),?_,isit0 ?_,BH l,λ_=>?_,λc Q hc q=>?_⟩
 ·rw [lawread0 a,b1,b2];rfl
 ·rw [BR (λds e=>by cases e;simp;omega),b4]
 ·have:=lawread1 a
  rw [b3] at this
  exact this
 refine rF rfl λKE hE _=>?_
 rw [tW]
 refine rV rfl ?_
 refine v9 rfl rfl rfl (qH hc (by simp [h.len];omega) (by simp [h.len];omega) λi c i1 i2 hc=>⟨_,rfl,?_⟩)
 refine pR λK hK _=>?_
 simp [isMut,R.mut,dep]
 refine Bb (f:=1) hc (by omega) λk c hk hc=>?_
 simp
 refine hK _ ?_
 simp at i2
 simp [letD]
 refine sD rfl rfl rfl ?_
 simp [wx _ i1]
 have lk:=hk.len
 refine ⟨by omega,sD rfl rfl rfl ?_⟩
 simp [xN _ (show 0<=i+1 by omega)]
 refine ⟨by omega,?_⟩
 have jj:(i+1).toNat=i.toNat+1:=by omega
 have L:=h.mix hk (i:=i.toNat) (by omega)
 have e:D.tup ((l.map D.int).take i.toNat++(k.map D.int++(l.map D.int).drop (i+1).toNat))=letD (l.take i.toNat++k++l.drop (i.toNat+1)):=by
  unfold letD
  rw [jj]
  simp
 rw [e]
 refine hE _ _ _ ⟨_,rfl⟩ (q _ _ c (shown0 (xS L hn)) ?_ (BH _) hc)
 rw [Hf]
 exact xi (λz=>EB L h1 hn h h1 hn z) (λz=>by rw [z])
theorem kd1 {n:Nat}{l:List (Int×Int)} (h:Wf n l) (h1:1<=n) (hn:n<=3):Kd 1 (wishD l) (wishT l):=by
 obtain ⟨b1,b2,b3,b4⟩:=w8 h h1 hn
 have a:=FG h h1 hn
 have hl:=h.len
 refine ⟨shown1 (zc h hn),?_,isit1 ?_,Aa l,λ_=>?_,λc Q hc q=>?_⟩
 ·rw [lawread1 a,b1,b2];rfl
 ·rw [zm (λds e=>by cases e;simp;omega),b4]
 ·have:=lawread0 a
  rw [b3] at this
  exact this
 refine rF rfl λKE hE _=>?_
 rw [tW]
 refine rV rfl ?_
 refine v9 rfl rfl rfl (qH hc (by simp [h.len];omega) (by simp [h.len];omega) λi c i1 i2 hc=>⟨_,rfl,?_⟩)
 refine pR λK hK _=>?_
 simp [isMut,R.mut,dep]
 refine zy (f:=1) hc (by omega) λk c hk hc=>?_
 simp
 refine hK _ ?_
 simp at i2
 simp [wishD]
 refine sD rfl rfl rfl ?_
 simp [wx _ i1]
 have lk:=hk.len
 refine ⟨by omega,sD rfl rfl rfl ?_⟩
 simp [xN _ (show 0<=i+1 by omega)]
 refine ⟨by omega,?_⟩
 have jj:(i+1).toNat=i.toNat+1:=by omega
 have L:=h.mix hk (i:=i.toNat) (by omega)
 have e:D.tup ((l.map pairD).take i.toNat++(k.map pairD++(l.map pairD).drop (i+1).toNat))=wishD (l.take i.toNat++k++l.drop (i.toNat+1)):=by
  unfold wishD
  rw [jj]
  simp
 rw [e]
 refine hE _ _ _ ⟨_,rfl⟩ (q _ _ c (shown1 (zc L hn)) ?_ (Aa _) hc)
 rw [EC]
 exact xi (λz=>Do L h1 hn h h1 hn z) (λz=>by rw [z])
theorem Rds.cut {n:Int}{rs:List (Int×Int)} (R:Rds n rs) (i:Nat):Rds n (rs.take i++rs.drop (i+1)):=by
 have:=R.few
 refine ⟨R.n0,λp hp=>?_,by simp;omega⟩
 rcases mem_append.mp hp with hp | hp
 ·exact R.all p (mem_of_mem_take hp)
 ·exact R.all p (mem_of_mem_drop hp)
theorem kd2 {n:Nat}{rs:List (Int×Int)}{rk:Int->Nat} (W:Web n rs rk) (ri:Rise rs):Kd 2 (webD n rs) (webT n rs):=by
 obtain ⟨b1,b2⟩:=Ft W ri
 have R:=W.rds
 have a:=Ja R
 have few:=R.few
 have ed:webD n rs=wbD n rs:=rfl
 refine ⟨shown2 (xc R),?_,isit2 ?_,A1 n rs,λz=>absurd z (by decide),λc Q hc q=>?_⟩
 ·rw [lawread2 a,b1,b2];rfl
 ·exact Ay (λm ds e=>by
   unfold webD at e
   injection e with e
   injection e with _ e
   injection e with e _
   injection e with e
   rw [← e,length_map];omega) ⟨λ_=>⟨n,rs,rfl,ri,rk,W⟩,λ_=>rfl⟩
 refine rF rfl λKE hE _=>?_
 rw [tW]
 refine xG rfl λK hR=>?_
 refine pR λK2 eM md=>?_
 simp [webD]
 refine eM _ ?_
 refine v9 rfl rfl rfl (qH hc (by simp;omega) (by simp;omega) λi c i1 i2 hc=>⟨_,rfl,?_⟩)
 simp
 refine sD rfl rfl rfl ?_
 simp [wx _ i1]
 refine sD rfl rfl rfl ?_
 simp [xN _ (show 0<=i+1 by omega)]
 refine ⟨by omega,?_⟩
 have L:=R.cut i.toNat
 have e:D.tup [D.int n,D.tup ((rs.map pairD).take i.toNat++(rs.map pairD).drop (i+1).toNat)]=wbD n (rs.take i.toNat++rs.drop (i.toNat+1)):=by
  unfold wbD
  rw [show (i+1).toNat=i.toNat+1 by omega]
  simp
 rw [e]
 refine hR _ _ (hE _ _ _ ⟨_,rfl⟩ (q _ _ c (shown2 (xc L)) ?_ (A1 _ _) hc))
 rw [ed,JG]
 exact xi (λz=>G2 L R z) (λz=>by rw [z])
def Sgn (t:PySem.Str):Prop:=t.length<=1/\∀ y∈t.cps.toList,y < 128
theorem Ei {i:Int} (h0:0<=i) (h1:i < 16):∃ t:PySem.Str,ixSF (.str "0123456789,,--- ") (.int i)=some (.str t)/\Sgn t:=by
 have z:i=0\/i=1\/i=2\/i=3\/i=4\/i=5\/i=6\/i=7\/i=8\/i=9\/i=10\/i=11\/i=12\/i=13\/i=14\/i=15:=by omega
 rcases z with rfl | rfl | rfl | rfl | rfl | rfl | rfl | rfl | rfl | rfl | rfl | rfl | rfl | rfl | rfl | rfl<;>exact ⟨_,rfl,by decide,by decide⟩
theorem E4 {ts:List PySem.Str} (ht:∀ t∈ts,∀ y∈t.cps.toList,y < 128):∀ y∈(join (("":String):PySem.Str) ts).cps.toList,y < 128:=by
 have e:join (("":String):PySem.Str) ts=PySem.Str.join (("":String):PySem.Str) ts:=glued_eq_join _ _
 rw [e]
 clear e
 induction ts with
 | nil=>intro y hy;cases hy
 | cons t r ih =>
  cases r with
  | nil=>exact ht t mem_cons_self
  | cons u r =>
   intro y hy
   have e2:PySem.Str.join (("":String):PySem.Str) (t::u::r)=t++(("":String):PySem.Str)++PySem.Str.join (("":String):PySem.Str) (u::r):=rfl
   rw [e2,qz,qz] at hy
   rcases mem_append.mp hy with hy | hy
   ·rcases mem_append.mp hy with hy | hy
    ·exact ht t mem_cons_self y hy
    ·cases hy
   ·exact ih (λt jY=>ht t (mem_cons_of_mem _ jY)) y hy
theorem Ie {x:PySem.Str} (h:Asc x){way:Int} (hw:way=0\/way=1\/way=2):∃ d,cvF qN [.int way,.str x]=some d/\(d≠.non->cvF qS [.int way,d]=some (.str x)):=by
 rcases hw with rfl | rfl | rfl
 ·refine ⟨_,lawread0 h,?_⟩
  cases b:letOk x with
  | true=>exact λ_=>shown0 (Dm b)
  | false=>exact λz=>absurd rfl z
 ·refine ⟨_,lawread1 h,?_⟩
  cases b:wishOk x with
  | true=>exact λ_=>shown1 (Hb b)
  | false=>exact λz=>absurd rfl z
 ·refine ⟨_,lawread2 h,?_⟩
  cases b:webOk x with
  | true=>exact λ_=>shown2 (Hn b)
  | false=>exact λz=>absurd rfl z
theorem law_true (ns:List Int) (fM:ns.length<=63):∃ rs,sk [.val (.lst (ns.map D.int))]=some (.val (.bl true),rs):=by
 have bF:wpF sk [.val (.lst (ns.map D.int))] λr _=>r=.val (.bl true):=by
  refine sw rfl λKE hE _=>?_
  rw [wa]
  refine pR ?_;rintro K hK -
  obtain ⟨c,hc,hp⟩:=Kl ns
  simp [hc]
  refine hK _ ?_
  refine pR ?_;rintro K hK hR
  simp
  refine sf (J:=λi Γ=>∃ c x2 x3 x4 x5 x6 x7 x8 x9,PotOk c/\Γ=[some (.val (.lst (ns.map .int))),some (.own c),x2,x3,x4,x5,x6,x7,x8,x9]) ⟨c,_,_,_,_,_,_,_,_,hp,rfl⟩ ?_ ?_
  ·rintro i d Γ - ⟨c,x2,x3,x4,x5,x6,x7,x8,x9,hc,rfl⟩ KL cQ - - -
   clear hK hR hE hp
   simp
   refine pR ?_;rintro K hK -
   simp [isMut,R.mut]
   refine qH hc (by omega) (by omega) λf0 c1 pK pL hc=>?_
   obtain ⟨f,hf⟩:∃ f:Nat,1+f0=f:=⟨(1+f0).toNat,by omega⟩
   have f1:1<=f:=by omega
   have f3:f<=3:=by omega
   simp [hf]
   refine hK _ ?_
   refine pR ?_;rintro K hK -
   simp [isMut,R.mut]
   refine Bb hc f3 λl c hl hc=>?_
   simp [isMut,R.mut]
   refine zy hc f3 λw c hw hc=>?_
   simp [isMut,R.mut]
   refine F7 hc λn rs rk c W ⟨ps,eU⟩ hc=>?_
   have ri:Rise rs:=by rw [eU];exact GX _
   clear eU
   simp
   refine hK _ ?_
   have k0:=kd0 hl f1 f3
   have k1:=kd1 hw f1 f3
   have k2:=kd2 W ri
   generalize letD l=d0 at k0 ⊢
   generalize wishD w=d1 at k1 ⊢
   generalize webD n rs=d2 at k2 ⊢
   generalize letT l=t0 at k0
   generalize wishT w=t1 at k1
   generalize webT n rs=t2 at k2
   clear hl hw W ri
   refine pR ?_;rintro K hK hR
   simp
   refine sf (J:=λi Γ=>∃ c x5 x6 x7 x8 x9,PotOk c/\Γ=[some (.val (.lst (ns.map .int))),some (.own c),some (.val d),some (.val (.int f)),some (.val (.lst [d0,d1,d2])),x5,x6,x7,x8,x9]) ⟨c,_,_,_,_,_,hc,rfl⟩ ?_ ?_
   ·rintro i e Γ he ⟨c,x5,x6,x7,x8,x9,hc,rfl⟩ KM gE - - -
    obtain ⟨way,d',x,k,rfl⟩:∃ (way:Int) (d':D) (x:PySem.Str),Kd way d' x/\e=.tup [.int way,d']:=by
     obtain ⟨y,h1,rfl⟩:=DL.tu he
     match i,h1 with
     | 0,h1=>cases h1;exact ⟨_,_,t0,k0,rfl⟩
     | 1,h1=>cases h1;exact ⟨_,_,t1,k1,rfl⟩
     | 2,h1=>cases h1;exact ⟨_,_,t2,k2,rfl⟩
     | n+3,h1=>simp at h1
    clear hK hR k0 k1 k2 he cQ
    have low:=k.low
    have ib:isBF true (.bl true) (.bl true)=some (.bl false):=rfl
    simp
    refine pR ?_;rintro K hK -
    simp [k.shown]
    refine hK _ ?_
    refine pR ?_;rintro K hK -
    simp [k.read,k.isit,vy,ib]
    refine ⟨by omega,hK _ ?_⟩
    refine pR ?_;rintro K hK -
    simp [isMut,R.mut]
    refine k.other _ _ hc λo t c ho e1 e2 hc=>?_
    simp
    refine hK _ ?_
    refine pR ?_;rintro K hK -
    simp [ho,e1]
    refine ⟨by omega,hK _ ?_⟩
    by_cases hw:way < 2
    ·have cr:=k.cross hw
     simp [hw,cr]
     exact gE _ ⟨_,_,_,_,_,_,hc,rfl⟩
    ·simp [hw]
     exact gE _ ⟨_,_,_,_,_,_,hc,rfl⟩
   ·rintro Γ ⟨c,x5,x6,x7,x8,x9,hc,rfl⟩
    refine hK _ ?_
    clear hK hR k0 k1 k2
    refine pR ?_;rintro K hK -
    simp [isMut,R.mut]
    refine xx (λi af Γ=>∃ (c:List D) (ts:List PySem.Str),PotOk c/\af=ts.map D.str/\ts.length=i/\(∀ t∈ts,Sgn t)/\Γ=[some (.val (.lst (ns.map .int))),some (.own c),some (.val d),some (.val (.int f)),some (.val (.lst [d0,d1,d2])),x5,x6,x7,x8,x9]) ?_
    simp [isMut,R.mut]
    refine qH hc (by omega) (by omega) λm c fh dh hc=>?_
    simp
    refine ⟨by omega,by omega,hc,?_,?_⟩
    ·rintro i dd af ah - c hc ts rfl hl hb rfl
     simp [isMut,R.mut]
     refine qH hc (by omega) (by omega) λy c fx oM hc=>?_
     obtain ⟨t,e,ht⟩:=Ei fx oM
     simp [e]
     refine ⟨_,_,⟨rfl,rfl⟩,c,hc,ts++[t],by simp,by simp [hl],λz hz=>?_,rfl⟩
     rcases mem_append.mp hz with hz | hz
     ·exact hb z hz
     ·rw [mem_singleton.mp hz];exact ht
    ·rintro af ah c hc ts rfl hl hb rfl
     have ha:Asc (join (("":String):PySem.Str) ts):=⟨vw (by decide) (by omega) λt ht=>le_trans (hb t ht).1 (by decide),E4 λt ht=>(hb t ht).2⟩
     have hj:=tN (x:=(("":String):PySem.Str)) (ts:=ts) (by decide) (by omega) λt ht=>le_trans (hb t ht).1 (by decide)
     generalize join (("":String):PySem.Str) ts=x at ha hj
     simp [hj]
     refine hK _ ?_
     simp
     refine sf (J:=λi Γ=>∃ x5 x6 x8 x9,Γ=[some (.val (.lst (ns.map .int))),some (.own c),some (.val d),some (.val (.int f)),some (.val (.lst [d0,d1,d2])),x5,x6,some (.val (.str x)),x8,x9]) ⟨_,_,_,_,rfl⟩ ?_ ?_
     ·rintro i e Γ he ⟨x5,x6,x8,x9,rfl⟩ KM gE - - -
      obtain ⟨way,hw,rfl⟩:∃ way:Int,(way=0\/way=1\/way=2)/\e=.int way:=by
       match i,he with
       | 0,he=>cases he;exact ⟨_,.inl rfl,rfl⟩
       | 1,he=>cases he;exact ⟨_,.inr (.inl rfl),rfl⟩
       | 2,he=>cases he;exact ⟨_,.inr (.inr rfl),rfl⟩
       | n+3,he=>cases he
      obtain ⟨z,z1,z2⟩:=Ie ha hw
      simp
      refine pR ?_;rintro K hK -
      simp [z1]
      refine hK _ ?_
      by_cases zn:z=.non
      ·subst zn
       simp
       exact gE _ ⟨_,_,_,_,rfl⟩
      ·have hi:isNF true z .non=some (.bl true):=by
        cases z<;>first | rfl | exact absurd rfl zn
       simp [hi,z2 zn]
       exact gE _ ⟨_,_,_,_,rfl⟩
     ·rintro Γ ⟨x5,x6,x8,x9,rfl⟩
      exact cQ _ ⟨_,_,_,_,_,_,_,_,_,hc,rfl⟩
  ·rintro Γ ⟨c,x2,x3,x4,x5,x6,x7,x8,x9,hc,rfl⟩
   refine hK _ ?_
   exact ⟨_,_,rfl,hE _ _ ⟨_,rfl,rfl⟩⟩
 obtain ⟨r,aI,e,rfl⟩:=bF
 exact ⟨aI,e⟩
end Own
namespace PySem.W.Fast
theorem tw7469014561549963988:True:=⟨⟩
theorem tw9602935374280811759:True:=⟨⟩
theorem tw11296350996097712710:True:=⟨⟩
theorem tw4824955640166676063:True:=⟨⟩
theorem tw4477446966305750526:True:=⟨⟩
theorem tw10254084897837202572:True:=⟨⟩
theorem tw16536877321205742552:True:=⟨⟩
theorem tw6885404670720839036:True:=⟨⟩
theorem tw8966445181621073657:True:=⟨⟩
theorem tw7926215081139070494:True:=⟨⟩
theorem tw12964692354556686047:True:=⟨⟩
theorem tw12623212619466639225:True:=⟨⟩
theorem tw6866585717096745834:True:=⟨⟩
theorem tw8996178272702523255:True:=⟨⟩
theorem tw7071033031891180649:True:=⟨⟩
theorem tw13600974686971945510:True:=⟨⟩
theorem tw13660104677867819319:True:=⟨⟩
theorem tw11034482676541407020:True:=⟨⟩
theorem tw11333272535131162672:True:=⟨⟩
theorem tw11950188386206085953:True:=⟨⟩
theorem tw12648028057192563690:True:=⟨⟩
theorem tw2503470575584977449:True:=⟨⟩
theorem tw13041092065948233098:True:=⟨⟩
theorem tw18431142692142000908:True:=⟨⟩
theorem tw13992623846567248605:True:=⟨⟩
theorem tw11211392371453001840:True:=⟨⟩
theorem tw3632403240006664622:True:=⟨⟩
theorem tw3730655292994799369:True:=⟨⟩
theorem tw13447923617113877766:True:=⟨⟩
theorem tw5594381882936356003:True:=⟨⟩
theorem tw14707828376050620814:True:=⟨⟩
theorem tw5482881713284366307:True:=⟨⟩
theorem tw15430741499717415933:True:=⟨⟩
theorem tw17522549550113311536:True:=⟨⟩
theorem tw18260618746736305287:True:=⟨⟩
theorem tw2331473167316027359:True:=⟨⟩
theorem tw4148346848899733880:True:=⟨⟩
theorem tw2835363826108623299:True:=⟨⟩
theorem tw1579505505799175085:True:=⟨⟩
theorem tw4289630578402984978:True:=⟨⟩
theorem tw17007346530559667807:True:=⟨⟩
theorem tw8163585273893464550:True:=⟨⟩
theorem tw8711004809890815117:True:=⟨⟩
theorem tw4604286285350106249:True:=⟨⟩
theorem tw12737699862840576088:True:=⟨⟩
theorem tw654494835419761177:True:=⟨⟩
theorem tw8669316626973748113:True:=⟨⟩
theorem tw11167736221403985841:True:=⟨⟩
theorem tw9289421138004577355:True:=⟨⟩
theorem tw473293858468216448:True:=⟨⟩
theorem tw6447880234380569535:True:=⟨⟩
theorem tw909615406372019723:True:=⟨⟩
theorem tw15686438291141131648:True:=⟨⟩
theorem tw14996049851106640511:True:=⟨⟩
theorem tw15317817365783771260:True:=⟨⟩
theorem tw1398962900983953702:True:=⟨⟩
theorem tw17155691842318654648:True:=⟨⟩
theorem tw12916356608114779004:True:=⟨⟩
theorem tw1024018325743802534:True:=⟨⟩
theorem tw5515224351785873808:True:=⟨⟩
theorem tw5268098886316918542:True:=⟨⟩
theorem tw9397533654260915188:True:=⟨⟩
theorem tw14244482266906626117:True:=⟨⟩
theorem tw5289935551786714392:True:=⟨⟩
theorem tw9090248256982004383:True:=⟨⟩
theorem tw4940165229620279411:True:=⟨⟩
theorem tw17489707379180706970:True:=⟨⟩
theorem tw11630960477363643613:True:=⟨⟩
theorem tw8246214096247602053:True:=⟨⟩
theorem tw13375576582964906273:True:=⟨⟩
theorem tw10842341652878421592:True:=⟨⟩
theorem tw3433816572159636033:True:=⟨⟩
theorem tw4166713006163737059:True:=⟨⟩
theorem tw15431919782903123055:True:=⟨⟩
theorem tw1781932448279218016:True:=⟨⟩
theorem tw4105529189058547355:True:=⟨⟩
theorem tw3144245793358383026:True:=⟨⟩
theorem tw1142964967591134907:True:=⟨⟩
theorem tw11428862722887542040:True:=⟨⟩
theorem tw16339456021541895273:True:=⟨⟩
theorem tw15874910441872888907:True:=⟨⟩
theorem tw178966108575877835:True:=⟨⟩
theorem tw2371710519601368538:True:=⟨⟩
theorem tw11941207599642185839:True:=⟨⟩
theorem tw7359690474459163924:True:=⟨⟩
theorem tw16990142423453672403:True:=⟨⟩
theorem tw10876092436248645488:True:=⟨⟩
theorem tw3949220076319349146:True:=⟨⟩
theorem tw3235958337938045494:True:=⟨⟩
theorem tw7128831899725302465:True:=⟨⟩
theorem tw8485319968354067158:True:=⟨⟩
theorem tw12892104028658661372:True:=⟨⟩
theorem tw13089991941910292493:True:=⟨⟩
theorem tw13114107114234461064:True:=⟨⟩
theorem tw13971238902019378568:True:=⟨⟩
theorem tw9612233863188219048:True:=⟨⟩
theorem tw1709803100432290003:True:=⟨⟩
end PySem.W.Fast
open PySem PySem.W PyProof.Rows
set_option maxRecDepth 100000 in
set_option maxHeartbeats 0 in
theorem PySem.Challenge.cw_roofpost_k73_whole_written_and_read_holds : PySem.Challenge.rw_roofpost_k73_whole_written_and_read.Holds := by
 w_on;(refine holds_law (by decide +kernel) λoR=>?_);k_head;(case hw=>w_witness2)
 k_fill
 refine Own.walk (l:=PySem.Challenge.rw_roofpost_k73_whole_written_and_read) Own.law_true rfl rfl (λw h pM=>PySem.W.kIn_of pM) ?F
 case F =>
  intro w mg fa h KX G fJ
  refine' Own.all_mk fJ (Own.dn KX G ?_ ?_ ?_ ?_) (Own.dn KX G ?_ ?_ ?_ ?_) (Own.dn KX G ?_ ?_ ?_ ?_) (Own.dn KX G ?_ ?_ ?_ ?_) (Own.dn KX G ?_ ?_ ?_ ?_) (Own.dn KX G ?_ ?_ ?_ ?_) (Own.dn KX G ?_ ?_ ?_ ?_) (Own.dn KX G ?_ ?_ ?_ ?_) (Own.dn KX G ?_ ?_ ?_ ?_) (Own.dn KX G ?_ ?_ ?_ ?_) (Own.dn KX G ?_ ?_ ?_ ?_) (Own.dn KX G ?_ ?_ ?_ ?_) (Own.dn KX G ?_ ?_ ?_ ?_) (Own.dn KX G ?_ ?_ ?_ ?_) (Own.dn KX G ?_ ?_ ?_ ?_) (Own.dn KX G ?_ ?_ ?_ ?_) (Own.dn KX G ?_ ?_ ?_ ?_) (Own.dn KX G ?_ ?_ ?_ ?_) (Own.dn KX G ?_ ?_ ?_ ?_) (Own.dn KX G ?_ ?_ ?_ ?_) (Own.dn KX G ?_ ?_ ?_ ?_) (Own.dn KX G ?_ ?_ ?_ ?_) (Own.dn KX G ?_ ?_ ?_ ?_) (Own.dn KX G ?_ ?_ ?_ ?_) (Own.dn KX G ?_ ?_ ?_ ?_) (Own.dn KX G ?_ ?_ ?_ ?_) (Own.dn KX G ?_ ?_ ?_ ?_) (Own.dn KX G ?_ ?_ ?_ ?_) (Own.dn KX G ?_ ?_ ?_ ?_) (Own.dn KX G ?_ ?_ ?_ ?_) (Own.dn KX G ?_ ?_ ?_ ?_) (Own.dn KX G ?_ ?_ ?_ ?_) (Own.dn KX G ?_ ?_ ?_ ?_) (Own.dn KX G ?_ ?_ ?_ ?_) (Own.dn KX G ?_ ?_ ?_ ?_) (mg_none_of KX G ?_) (mg_none_of KX G ?_) (mg_none_of KX G ?_) (mg_none_of KX G ?_) (mg_none_of KX G ?_) (mg_none_of KX G ?_) (mg_none_of KX G ?_) (mg_none_of KX G ?_) (mg_none_of KX G ?_) (mg_none_of KX G ?_) (mg_none_of KX G ?_) (mg_none_of KX G ?_) (mg_none_of KX G ?_) (mg_none_of KX G ?_) (mg_none_of KX G ?_) (mg_of KX G ?_) (mg_of KX G ?_) (mg_of KX G ?_) (mg_of KX G ?_) (mg_of KX G ?_) (mg_of KX G ?_) (mg_of KX G ?_) ?_
  any_goals k_is
  all_goals k_exc
