import PyProof.Rows.All
import Wide.All
import OpenK.AllK
import Wide.FinOn
import Lean
import PyProof.EqAt
import PyProof.EqKinds
import PyProof.TupleCall
import PyProof.NeKinds
import PyProof.IsiSeqPairs
import PyProof.IsiNone
import KE.KSortTup
import KE.KRevSl
import PySem.Challenge.RW_roofpost_k23_what_is_a_web
set_option Elab.async false
set_option linter.all false
set_option maxRecDepth 100000
namespace L2
open PySem PySem.Spec PyProof.Rows
abbrev Key:=Sum Int Str
def keyIs:Key->Value->Bool
 | .inl k,v=>Value.isInt k v
 | .inr x,v=>Value.isStrOf x v
def keyH (w:World):Key->Int
 | .inl k=>hashInt k
 | .inr x=>hashStr w x
theorem aZ':∀ {k:Key}{v:Value},keyIs k v=true->(∃ i t,k=Sum.inl i/\v=Value.int i t)\/(∃ x t,k=Sum.inr x/\v=Value.str x t)
 | .inl i,v,h=>by
  obtain ⟨t,e⟩:=Value.isInt_shape (k:=i) (v:=v) h
  exact .inl ⟨i,t,rfl,e⟩
 | .inr x,v,h=>by
  obtain ⟨t,e⟩:=Value.isStrOf_shape (x:=x) (v:=v) h
  exact .inr ⟨x,t,rfl,e⟩
theorem mz' (i:Int) (t:Tok):keyIs (.inl i) (.int i t)=true:=by simp [keyIs,Value.isInt]
theorem mA' (x:Str) (t:Tok):keyIs (.inr x) (.str x t)=true:=by simp [keyIs,Value.isStrOf]
theorem qy' (a b:Int):decide ((Sum.inl a:Key)=Sum.inl b)=(a == b):=by
 by_cases e:a=b
 ·subst e;simp
 ·have h:¬ (Sum.inl a:Key)=Sum.inl b:=λq=>e (Sum.inl.inj q)
  rw [decide_eq_false h]
  exact (beq_eq_false_iff_ne.mpr e).symm
theorem qz' (a b:Str):decide ((Sum.inr a:Key)=Sum.inr b)=decide (a=b):=by
 by_cases e:a=b
 ·subst e;simp
 ·have h:¬ (Sum.inr a:Key)=Sum.inr b:=λq=>e (Sum.inr.inj q)
  rw [decide_eq_false h,decide_eq_false e]
theorem qA' (a:Int) (b:Str):decide ((Sum.inl a:Key)=Sum.inr b)=false:=decide_eq_false (λq=>nomatch q)
theorem qB' (a:Str) (b:Int):decide ((Sum.inr a:Key)=Sum.inl b)=false:=decide_eq_false (λq=>nomatch q)
def mixKind (prog:Program) (w:World):PySem.KeyKind prog w Key where
 is:=keyIs
 hash:=keyH w
 inj:=λv a b ha hb=>by
  rcases aZ' ha with ⟨i,t,rfl,rfl⟩ | ⟨x,t,rfl,rfl⟩
  ·rcases aZ' hb with ⟨j,u,rfl,e⟩ | ⟨y,u,rfl,e⟩
   ·injection e with e1 _;rw [e1]
   ·exact nomatch e
  ·rcases aZ' hb with ⟨j,u,rfl,e⟩ | ⟨y,u,rfl,e⟩
   ·exact nomatch e
   ·injection e with e1 _;rw [e1]
 byValue:=λk v h=>by
  rcases aZ' h with ⟨i,t,rfl,rfl⟩ | ⟨x,t,rfl,rfl⟩<;>rfl
 pyHash:=λhv h=>by
  rcases aZ' hv with ⟨i,t,rfl,rfl⟩ | ⟨x,t,rfl,rfl⟩
  ·exact wpAny_pyHash_int h
  ·exact wpAny_pyHash_str h
 eqBool:=λhu hv h=>by
  rcases aZ' hu with ⟨i,t,rfl,rfl⟩ | ⟨x,t,rfl,rfl⟩
  ·rcases aZ' hv with ⟨j,u,rfl,rfl⟩ | ⟨y,u,rfl,rfl⟩
   ·rw [qy'] at h;exact wpAny_eqBool_int h
   ·rw [qA'] at h;exact SeqAt.EqAt.int_str i t y u _ _ _ _ h
  ·rcases aZ' hv with ⟨j,u,rfl,rfl⟩ | ⟨y,u,rfl,rfl⟩
   ·rw [qB'] at h;exact SeqAt.EqAt.str_int x t j u _ _ _ _ h
   ·rw [qz'] at h;exact wpAny_eqBool_str h
 «strs»:=λk x t v h=>by
  rcases aZ' h with ⟨i,u,rfl,e⟩ | ⟨y,u,rfl,e⟩
  ·exact nomatch e
  ·injection e with e1 _
   subst e1
   cases v<;>rfl
theorem kp' (prog:Program) (w:World) (i:Int) (t:Tok):(mixKind prog w).is (.inl i) (.int i t)=true:=mz' i t
theorem kq' (prog:Program) (w:World) (x:Str) (t:Tok):(mixKind prog w).is (.inr x) (.str x t)=true:=mA' x t
end L2
namespace L2
open PySem PySem.Spec PyProof.Rows
inductive V where
 | non | bl (b:Bool) | int (i:Int) | str (x:Str) | byt (b:Array UInt8) | flt (b:UInt64) | ref (a:Addr) | ty (n:String)
 deriving DecidableEq
def RelV:V->Value->Prop
 | .non,u=>u=Value.none
 | .bl b,u=>u=Value.bool b
 | .int i,u=>∃ t,u=Value.int i t
 | .str x,u=>∃ t,u=Value.str x t
 | .byt b,u=>∃ t,u=Value.bytes b t
 | .flt b,u=>∃ t,u=Value.float b t
 | .ref a,u=>u=Value.ref a
 | .ty n,u=>u=Value.type n
abbrev Vals:List V->List Value->Prop:=Paired RelV
theorem Vals.length {xs:List V}{us:List Value} (r:Vals xs us):xs.length=us.length:=Paired.length r
theorem Vals.get:∀ {xs:List V}{us:List Value}{i:Nat}{x:V},Vals xs us->xs[i]?=some x->∃ u,us[i]?=some u/\RelV x u
 | _,_,_,_,.nil,e=>by simp at e
 | _,_,0,_,.cons r _,e=>by simp at e;subst e;exact ⟨_,rfl,r⟩
 | _,_,i+1,x,.cons _ t,e=>by
  obtain ⟨u,h1,h2⟩:=Vals.get (i:=i) (x:=x) t (by simpa using e)
  exact ⟨u,by simpa using h1,h2⟩
theorem Vals.set {x:V}{u:Value} (r:RelV x u):∀ {xs:List V}{us:List Value} (i:Nat),Vals xs us->Vals (xs.set i x) (us.set i u)
 | _,_,_,.nil=>.nil
 | _,_,0,.cons _ t=>.cons r t
 | _,_,i+1,.cons q t=>.cons q (Vals.set r i t)
theorem Vals.append:∀ {xs ys:List V}{us ws:List Value},Vals xs us->Vals ys ws->Vals (xs++ys) (us++ws)
 | _,_,_,_,.nil,s=>s
 | _,_,_,_,.cons r t,s=>.cons r (Vals.append t s)
theorem Vals.take:∀ {xs:List V}{us:List Value} (n:Nat),Vals xs us->Vals (xs.take n) (us.take n)
 | _,_,0,_=>.nil
 | _,_,_+1,.nil=>.nil
 | _,_,n+1,.cons r t=>.cons r (Vals.take n t)
theorem Vals.drop:∀ {xs:List V}{us:List Value} (n:Nat),Vals xs us->Vals (xs.drop n) (us.drop n)
 | _,_,0,r=>r
 | _,_,_+1,.nil=>.nil
 | _,_,n+1,.cons _ t=>Vals.drop n t
def RelO:Option V->Option Value->Prop
 | some v,some u=>RelV v u
 | none,none=>True
 | _,_=>False
def KV {κ:Type}:List (κ×V)->List (κ×Value)->Prop:=Paired λ(p:κ×V) (q:κ×Value)=>p.1=q.1/\RelV p.2 q.2
def kV:Key->V
 | .inl i=>.int i
 | .inr x=>.str x
inductive HO where
 | lst (xs:List V)
 | tup (xs:List V)
 | dK (kvs:List (Key×V)) | dT (kvs:List (List Key×V))
 | set (S:Int->Bool) (n:Nat)
 | ins (C dx:Addr) (fs:List (Str×V))
 | own (x:Addr)
 | xd (fs:List (Str×V))
 | met (f x:Addr)
 | rng (lo hi:Int)
 | frz (o:Obj) (u:HO)
 | tbl (ps:Array Value)
 | ext (φ:Heap->Prop)
abbrev Hp:=Addr->Option HO
def upd (H:Hp) (a:Addr) (o:HO):Hp:=λb=>if b=a then some o else H b
theorem av' {H:Hp}{a:Addr}{o:HO}:upd H a o a=some o:=by unfold upd;rw [if_pos rfl]
theorem aj' {H:Hp}{a b:Addr}{o:HO} (h:b≠a):upd H a o b=H b:=by unfold upd;rw [if_neg h]
theorem rX' {H:Hp}{a b:Addr}{o u:HO} (h:H a=some o) (h':H b=some u) (d:o≠u):a≠b:=by
 intro e;subst e;rw [h] at h';exact d (Option.some.inj h')
theorem a6' {H:Hp}{a b:Addr}{o:HO} (h:H a=some o) (h':H b=none):a≠b:=by
 intro e;subst e;rw [h] at h';cases h'
section
variable (P:Program) (w:World)
def ObjOk (H:Hp) (h:Heap) (a:Addr):HO->Prop
 | .lst xs=>xs.length<=sizeLine/\∃ (its:List Value) (n:Nat),Vals xs its/\h.get? a=some { cls:=.type "list", data:=.seq its.toArray n }
 | .tup xs=>xs.length<=sizeLine/\∃ its:List Value,Vals xs its/\IsTup h a its.toArray
 | .dK kvs=>kvs.length<=sizeLine/\(a == sysModules)=false/\∃ vs,KV kvs vs/\h.DictOf (mixKind P w) a vs
 | .dT kvs=>kvs.length<=sizeLine/\(a == sysModules)=false/\∃ xs:List (List Key×Addr×Value),
   Paired (λ(p:List Key×V) (q:List Key×Addr×Value)=>p.1=q.1/\H q.2.1=some (.tup (p.1.map kV))/\RelV p.2 q.2.2) kvs xs ∧
   ∃ o es ep,h.get? a=some o/\o.ExactDict/\o.data=.dict es ep/\es.toList=xs.map (entryOfKey (tupleKind (mixKind P w)))/\(xs.map (·.1)).Nodup
 | .set S n=>h.SetOf (intKind P w) a S n
 | .ins C dx fs=>H dx=some (.own a)/\fs.length<=1000/\dx≠a/\h.get? a=some (PySem.W.instObj C dx) ∧
   ∃ mA,h.Ns1 dx mA/\(∀ f,RelO (fs.lookup f) (mA f))/\PySem.Within mA (fs.map (·.1))
 | .own _=>∃ o,h.get? a=some o
 | .xd fs=>∃ mA,h.Ns1 a mA/\∀ f,RelO (fs.lookup f) (mA f)
 | .rng lo hi=>∃ t u v,h.get? a=some { cls:=.type "range", data:=.fields #[.int lo t,.int hi u,.int 1 v] }
 | .frz o u=>h.get? a=some o/\ObjOk H h a u
 | .tbl ps=>h.get? a=some { cls:=.none,data:=.fields ps }
 | .met f x=>h.get? a=some (PySem.W.methodObj (.ref f) (.ref x))
 | .ext φ=>φ h/\(∃ o,h.get? a=some o)/\∀ h1 h2:Heap,φ h1->(∀ o,h1.get? a=some o->h2.get? a=some o)->φ h2
def HOk (H:Hp) (h:Heap):Prop:=∀ a o,H a=some o->ObjOk P w H h a o
end
section
variable {P:Program}{w:World}{H H':Hp}{h h':Heap}{a:Addr}{o:HO}
theorem ObjOk.lt (x:ObjOk P w H h a o):a < h.objs.size:=by
 cases o with
 | lst xs=>obtain ⟨_,_,_,_,e⟩:=x;exact Heap.lt_size e
 | tup xs=>obtain ⟨_,_,_,p⟩:=x;exact p.lt
 | dK kvs=>obtain ⟨_,_,_,_,o,_,_,e,_⟩:=x;exact Heap.lt_size e
 | dT kvs=>obtain ⟨_,_,_,_,o,_,_,e,_⟩:=x;exact Heap.lt_size e
 | set S n=>obtain ⟨o,_,_,_,e,_⟩:=x;exact Heap.lt_size e
 | ins C dx fs=>obtain ⟨_,_,_,e,_⟩:=x;exact Heap.lt_size e
 | own y=>obtain ⟨_,e⟩:=x;exact Heap.lt_size e
 | xd fs=>obtain ⟨_,⟨_,_,_,e,_⟩,_⟩:=x;exact Heap.lt_size e
 | rng lo hi=>obtain ⟨_,_,_,e⟩:=x;exact Heap.lt_size e
 | frz ob u=>obtain ⟨e,_⟩:=x;exact Heap.lt_size e
 | tbl ps=>exact Heap.lt_size (show h.get? a=some _ from x)
 | met f y=>exact Heap.lt_size (show h.get? a=some _ from x)
 | ext φ=>obtain ⟨_,⟨_,e⟩,_⟩:=x;exact Heap.lt_size e
theorem Paired.mapP {α β:Type}{F G:α->β->Prop}:∀ {l₁:List α}{l₂:List β},Paired F l₁ l₂->(∀ a b,F a b->G a b)->Paired G l₁ l₂
 | _,_,.nil,_=>.nil
 | _,_,.cons r t,f=>.cons (f _ _ r) (Paired.mapP t f)
theorem ObjOk.stay (x:ObjOk P w H h a o) (k:∀ b u,(b=a\/H b=some (.own a))->h.get? b=some u->h'.get? b=some u)
  (ho:∀ b,H b=some (.own a)->H' b=some (.own a)) (ht:∀ b xs,H b=some (.tup xs)->H' b=some (.tup xs)):ObjOk P w H' h' a o:=by
 induction o with
 | lst xs=>obtain ⟨z,its,n,r,e⟩:=x;exact ⟨z,its,n,r,k _ _ (.inl rfl) e⟩
 | tup xs=>obtain ⟨z,its,r,ob,e,c⟩:=x;exact ⟨z,its,r,ob,k _ _ (.inl rfl) e,c⟩
 | dK kvs=>obtain ⟨z,y,vs,r,ob,es,ep,e,c⟩:=x;exact ⟨z,y,vs,r,ob,es,ep,k _ _ (.inl rfl) e,c⟩
 | dT kvs =>
  obtain ⟨z,y,xs,r,ob,es,ep,e,c⟩:=x
  exact ⟨z,y,xs,Paired.mapP r λp q z=>⟨z.1,ht _ _ z.2.1,z.2.2⟩,ob,es,ep,k _ _ (.inl rfl) e,c⟩
 | set S n=>obtain ⟨ob,es,ep,t,e,c⟩:=x;exact ⟨ob,es,ep,t,k _ _ (.inl rfl) e,c⟩
 | ins C dx fs =>
  obtain ⟨d,z,ne,e,mA,⟨od,es,ep,e2,c⟩,r⟩:=x
  exact ⟨ho _ d,z,ne,k _ _ (.inl rfl) e,mA,⟨od,es,ep,k _ _ (.inr d) e2,c⟩,r⟩
 | own y=>obtain ⟨ob,e⟩:=x;exact ⟨ob,k _ _ (.inl rfl) e⟩
 | xd fs=>obtain ⟨mA,⟨od,es,ep,e,c⟩,r⟩:=x;exact ⟨mA,⟨od,es,ep,k _ _ (.inl rfl) e,c⟩,r⟩
 | rng lo hi=>obtain ⟨t,u,v,e⟩:=x;exact ⟨t,u,v,k _ _ (.inl rfl) e⟩
 | frz ob u ih=>obtain ⟨e,q⟩:=x;exact ⟨k _ _ (.inl rfl) e,ih q⟩
 | tbl ps =>
  have e:h.get? a=some { cls:=.none,data:=.fields ps }:=x
  show h'.get? a=some { cls:=.none,data:=.fields ps }
  exact k a _ (.inl rfl) e
 | met f y =>
  have e:h.get? a=some (PySem.W.methodObj (.ref f) (.ref y)):=x
  show h'.get? a=some (PySem.W.methodObj (.ref f) (.ref y))
  exact k a _ (.inl rfl) e
 | ext φ=>obtain ⟨p,⟨o,e⟩,st⟩:=x;exact ⟨st _ _ p λo q=>k _ _ (.inl rfl) q,⟨o,k _ _ (.inl rfl) e⟩,st⟩
theorem HOk.lt (x:HOk P w H h) (e:H a=some o):a < h.objs.size:=(x a o e).lt
theorem HOk.fresh (x:HOk P w H h) (e:h.objs.size<=a):H a=none:=by
 cases q:H a with
 | none=>rfl
 | some u=>exact absurd (Nat.lt_of_lt_of_le (x.lt q) e) (Nat.lt_irrefl _)
theorem HOk.kept (x:HOk P w H h) (k:∀ b u,h.get? b=some u->h'.get? b=some u):HOk P w H h':=λa o e =>
 (x a o e).stay (λb u _ q=>k b u q) (λ_ q=>q) λ_ _ q=>q
theorem HOk.laid (x:HOk P w H h) (k:∀ b u,h.get? b=some u->h'.get? b=some u) (hp:h.objs.size<=a) (new:ObjOk P w (upd H a o) h' a o):HOk P w (upd H a o) h':=λb u e=>by
 have hn:=x.fresh hp
 by_cases hb:b=a
 ·subst hb;rw [av'] at e;cases e;exact new
 ·rw [aj' hb] at e
  exact (x b u e).stay (λc v _ q=>k c v q) (λc q=>by rw [aj' (a6' q hn)];exact q) λc xs q=>by rw [aj' (a6' q hn)];exact q
end
def Rd (H:Hp) (a:Addr) (u:HO):Prop:=H a=some u\/∃ o,H a=some (.frz o u)
theorem Rd.ok {P:Program}{w:World}{H:Hp}{h:Heap}{a:Addr}{u:HO} (r:Rd H a u) (x:HOk P w H h):ObjOk P w H h a u:=by
 rcases r with r | ⟨o,r⟩
 ·exact x a u r
 ·obtain ⟨_,q⟩:=x a _ r
  exact q
def Mut:Option HO->Prop
 | some (.lst _)=>True
 | some (.dK _)=>True
 | some (.dT _)=>True
 | some (.set _ _)=>True
 | some (.ins _ _ _)=>True
 | some (.ext _)=>True
 | _=>False
section
variable {P:Program}{w:World}{H:Hp}{h h':Heap}{x e:Addr}{o':HO}
theorem HOk.write (ok:HOk P w H h) (mu:Mut (H x)) (he:e=x\/H e=some (.own x)) (k:∀ b u,b≠e->h.get? b=some u->h'.get? b=some u) (heo:∃ u,h'.get? e=some u)
  (new:ObjOk P w (upd H x o') h' x o'):HOk P w (upd H x o') h':=λb u q=>by
 have nown:∀ c y,H c=some (.own y)->c≠x:=λc y r z=>by subst z;rw [r] at mu;exact mu
 have ntup:∀ c xs,H c=some (.tup xs)->c≠x:=λc xs r z=>by subst z;rw [r] at mu;exact mu
 by_cases hb:b=x
 ·subst hb;rw [av'] at q;cases q;exact new
 ·rw [aj' hb] at q
  by_cases hbe:b=e
  ·have q':H b=some (.own x):=by
    rcases he with z | z
    ·exact absurd (hbe.trans z) hb
    ·rw [hbe];exact z
   rw [q] at q';cases q'
   obtain ⟨v,hv⟩:=heo
   exact ⟨v,by rw [hbe];exact hv⟩
  ·refine (ok b u q).stay (λc v hc r=>k c v ?_ r) (λc r=>by rw [aj' (nown c b r)];exact r) λc xs r=>by rw [aj' (ntup c xs r)];exact r
   rcases hc with rfl | hc
   ·exact hbe
   ·rintro rfl
    rcases he with z | z
    ·exact nown c b hc z
    ·rw [hc] at z;cases z;exact hb rfl
end
structure Un (fs ex:List Addr) (H H':Hp) (h h':Heap):Prop where
 keep:∀ b o,h.get? b=some o->H b=none->b∉fs->b∉ex->h'.get? b=some o
 slot:∀ b o,h.get? b=some o->H b=none->b∈fs->b∉ex->∃ sl,h'.get? b=some { o with slots:=sl }
 free:∀ b o,h.get? b=some o->H b=none->b∉ex->H' b=none
 there:∀ b o,h.get? b=some o->b∉ex->∃ o',h'.get? b=some o'
 tups:∀ b xs,H b=some (.tup xs)->H' b=some (.tup xs)
 frzs:∀ b o u,H b=some (.frz o u)->H' b=some (.frz o u)
 tbls:∀ b ps,H b=some (.tbl ps)->∃ more,H' b=some (.tbl (ps++more))
section
variable {fs fs' ex ex':List Addr}{H H1 H2:Hp}{h h1 h2 h':Heap}{a x e:Addr}{o:HO}
theorem Un.any (u:Un fs ex H H1 h h1){b:Addr}{ob:Obj} (q:h.get? b=some ob) (n:H b=none) (hx:b∉ex):∃ sl,h1.get? b=some { ob with slots:=sl }:=by
 by_cases hb:b∈fs
 ·exact u.slot b ob q n hb hx
 ·exact ⟨ob.slots,u.keep b ob q n hb hx⟩
theorem Un.kept (k:∀ b u,h.get? b=some u->h'.get? b=some u):Un fs ex H H h h' :=
 ⟨λb ob q _ _ _=>k b ob q,λb ob q _ _ _=>⟨ob.slots,k b ob q⟩,λ_ _ _ n _=>n,λb ob q _=>⟨ob,k b ob q⟩,λ_ _ q=>q,λ_ _ _ q=>q,λ_ ps q=>⟨#[],by rw [q];simp⟩⟩
theorem Un.refl:Un fs ex H H h h:=Un.kept λ_ _ q=>q
theorem Un.laid (k:∀ b u,h.get? b=some u->h'.get? b=some u) (hp:h.objs.size<=a) (hn:H a=none):Un fs ex H (upd H a o) h h' where
 keep:=λb u q _ _ _=>k b u q
 slot:=λb u q _ _ _=>⟨u.slots,k b u q⟩
 free:=λb u q n _=>by rw [aj' (Nat.ne_of_lt (Nat.lt_of_lt_of_le (Heap.lt_size q) hp))];exact n
 there:=λb u q _=>⟨u,k b u q⟩
 tups:=λb xs q=>by rw [aj' (a6' q hn)];exact q
 frzs:=λb u xs q=>by rw [aj' (a6' q hn)];exact q
 tbls:=λb ps q=>⟨#[],by rw [aj' (a6' q hn),q];simp⟩
theorem Un.write (mu:Mut (H x)) (he:e=x\/H e=some (.own x)) (k:∀ b u,b≠e->h.get? b=some u->h'.get? b=some u) (heo:∃ u,h'.get? e=some u):Un fs ex H (upd H x o) h h':=by
 have hx:∀ b,H b=none->b≠x:=λb n z=>by subst z;rw [n] at mu;exact mu
 have hb:∀ b,H b=none->b≠e:=λb n z=>by
  subst z
  rcases he with r | r
  ·exact hx b n r
  ·rw [n] at r;cases r
 have hm:∀ b u,H b=some u->¬ Mut (some u)->b≠x:=λb u q nm z=>by subst z;rw [q] at mu;exact nm mu
 refine ⟨λb u q n _ _=>k b u (hb b n) q,λb u q n _ _=>⟨u.slots,k b u (hb b n) q⟩,λb u q n _=>by rw [aj' (hx b n)];exact n,λb u q _=>?_,
  λb xs q=>by rw [aj' (hm b _ q λz=>z)];exact q,λb u xs q=>by rw [aj' (hm b _ q λz=>z)];exact q,λb ps q=>⟨#[],by rw [aj' (hm b _ q λz=>z),q];simp⟩⟩
 by_cases hbe:b=e
 ·subst hbe;exact heo
 ·exact ⟨u,k b u hbe q⟩
end
def trk (h:Heap) (H:Hp):List Addr:=(List.range h.objs.size).filter λa=>(H a).isSome
def hidT (h:Heap) (H:Hp):Heap:=PySem.W.hideAll h (trk h H)
theorem mB' (h:Heap) (H:Hp):(hidT h H).objs.size=h.objs.size:=PySem.W.hideAll_size _ _
theorem od' {h:Heap}{H:Hp}{b:Addr}{o:Obj} (e:h.get? b=some o) (n:H b=none):(hidT h H).get? b=some o :=
 PySem.W.hideAll_get _ e λhm=>by
  have q:(H b).isSome=true:=(List.mem_filter.mp hm).2
  rw [n] at q;simp at q
theorem pr' {h:Heap}{H:Hp}{b:Addr}{o:Obj} (e:(hidT h H).get? b=some o):h.get? b=some o/\H b=none:=by
 have e':h.get? b=some o:=PySem.W.of_hideAll (trk h H) e
 refine ⟨e',?_⟩
 cases q:H b with
 | none=>rfl
 | some x =>
  have hm:b∈trk h H:=List.mem_filter.mpr ⟨List.mem_range.mpr (Heap.lt_size e'),by simp [q]⟩
  have z:(hidT h H).get? b=none:=PySem.W.hideAll_none (trk h H) hm
  rw [z] at e;cases e
end L2
namespace L2
open PySem PySem.Spec PyProof.Rows
structure Mod (K:PySem.W.Frag) (mg:Str->Option Value) (base:Heap):Prop where
 kin:K.In base
 glob:base.Ns mainGlobals mg
 blt:∃ mb,base.Ns builtinsNs mb/\∀ x:Str,x ≠ "__name__"->mb x=bootBuiltins x
 nolimit:base.NoLimit
structure Cx where
 prog:Program
 w:World
 K:PySem.W.Frag
 mg:Str->Option Value
 base:Heap
 A:Around
 N:List Str
 s₀:Shared
 H₀:Hp
 env:Env
 outer:List Env
 stack:List Env
 ex:List Addr
 fn:Str->Bool
 calm:Bool
 pn:List (Addr×Obj)
 xe:Value->Shared->Prop
def frs (l:List Env):List Addr:=l.filterMap (·.frame)
abbrev Cx.fs (X:Cx):List Addr:=frs X.outer
def Vis (sc:Scope) (x:Str):Prop:=sc.names.lookup x=some .local\/sc.names.lookup x=some .cell\/sc.names.lookup x=some .free
def Loc (sc:Scope) (x:Str):Prop:=sc.names.lookup x=some .local\/sc.names.lookup x=some .cell
def Look (env:Env) (h:Heap) (m:Str->Option Value) (x:Str) (u:Value):Prop :=
 (env.kindOf x=some .local/\m x=some u)\/((env.kindOf x=some .cell\/env.kindOf x=some .free)/\∃ c,env.cells.lookup x=some c/\h.IsCell c (some u))
structure Cx.Ok (X:Cx):Prop where
 mod:Mod X.K X.mg X.base
 kind:X.env.scope.kind=.function
 glob:X.env.globals=mainGlobals
 blt:X.env.builtins=builtinsNs
 above:X.s₀.heap.objs.size<=X.env.locals
 inj:∀ x y c,X.env.cells.lookup x=some c->X.env.cells.lookup y=some c->x=y
 has:∀ x,(X.env.kindOf x=some .cell\/X.env.kindOf x=some .free)->∃ c,X.env.cells.lookup x=some c
 cab:∀ x c,X.fn x=true->X.env.cells.lookup x=some c->X.s₀.heap.objs.size<=c
 hd:X.calm=true->X.A.handled=none
 frames:X.A.frames=some X.stack
 stk:X.stack=X.outer\/(X.stack=X.env::X.outer/\X.env.frame=some X.env.locals)
 exf:∀ b∈X.ex,b≠X.env.locals/\∀ x c,X.env.cells.lookup x=some c->c≠b
 bs:∀ b o,X.base.get? b=some o->X.s₀.heap.get? b=some o/\X.H₀ b=none
 bsz:X.base.objs.size<=X.s₀.heap.objs.size
 noex:∀ b o,X.base.get? b=some o->b∉X.ex
 exfs:∀ b∈X.ex,b∉X.fs
 funs:X.s₀.heap.FunFrames X.base X.outer
 frf:∀ b∈X.fs,X.H₀ b=none
structure Inv (X:Cx) (pins:List (Addr×Obj)) (σ:List (Option V)) (H:Hp) (s:Shared):Prop where
 ok:X.Ok
 os:s.os=X.s₀.os
 bare:AllBare s.gens
 base:Un X.fs X.ex X.H₀ H X.s₀.heap s.heap
 loc:∃ m,s.heap.Ns X.env.locals m/\∀ (i:Nat) (x:Str) (v:V),X.N[i]?=some x->σ[i]?=some (some v)->Vis X.env.scope x->∃ u,RelV v u/\Look X.env s.heap m x u
 cell:∀ x c,X.env.cells.lookup x=some c->∃ v,s.heap.IsCell c v
 free:H X.env.locals=none
 freeC:∀ x c,X.env.cells.lookup x=some c->H c=none
 pin:∀ p∈X.pn++pins,s.heap.get? p.1=some p.2/\H p.1=none/\p.1≠X.env.locals/\p.1∉X.fs/\∀ v,p.2.data≠.cell v
 hok:HOk X.prog X.w H s.heap
 len:σ.length=X.N.length
section
variable {X:Cx}{pins:List (Addr×Obj)}{σ:List (Option V)}{H H':Hp}{s:Shared}{h':Heap}
theorem Cx.Ok.nofr (ok:X.Ok){b:Addr}{o:Obj} (e:X.base.get? b=some o):b∉X.fs:=λhb=>by
 have:=(ok.funs.mem hb).1
 rw [e] at this;cases this
theorem Inv.bs (I:Inv X pins σ H s):∀ b o,X.base.get? b=some o->s.heap.get? b=some o/\H b=none:=λb o e =>
 ⟨I.base.keep b o (I.ok.bs b o e).1 (I.ok.bs b o e).2 (I.ok.nofr e) (I.ok.noex b o e),I.base.free b o (I.ok.bs b o e).1 (I.ok.bs b o e).2 (I.ok.noex b o e)⟩
theorem Inv.bk (I:Inv X pins σ H s):∀ b o,X.base.get? b=some o->s.heap.get? b=some o:=λb o e=>(I.bs b o e).1
theorem Inv.mod (I:Inv X pins σ H s):Mod X.K X.mg X.base:=I.ok.mod
theorem Inv.kIn (I:Inv X pins σ H s):X.K.In s.heap:=I.ok.mod.kin.keeps I.bk
theorem Inv.lt (I:Inv X pins σ H s):X.env.locals < s.heap.objs.size:=let ⟨_,hn,_⟩:=I.loc;hn.lt
theorem Inv.sz (I:Inv X pins σ H s):X.s₀.heap.objs.size<=s.heap.objs.size:=Nat.le_trans I.ok.above (Nat.le_of_lt I.lt)
theorem Inv.nofs (I:Inv X pins σ H s){a:Addr} (h:s.heap.objs.size<=a):a∉X.fs:=λhb=>by
 obtain ⟨_,o,ho,_⟩:=I.ok.funs.mem hb
 exact absurd (Nat.lt_of_lt_of_le (Heap.lt_size ho) (Nat.le_trans I.sz h)) (Nat.lt_irrefl _)
theorem Inv.cne (I:Inv X pins σ H s):∀ x c,X.env.cells.lookup x=some c->c≠X.env.locals:=λx c e z=>by
 obtain ⟨v,o,ho,hd⟩:=I.cell x c e
 obtain ⟨m,⟨o',es,ep,ho',hd',_⟩,_⟩:=I.loc
 rw [z,ho'] at ho;cases ho;rw [hd'] at hd;cases hd
theorem Inv.funs (I:Inv X pins σ H s):s.heap.FunFrames X.base X.outer:=by
 have all:∀ (l:List Env),(∀ b∈frs l,b∈X.fs)->X.s₀.heap.FunFrames X.base l->s.heap.FunFrames X.base l:=by
  intro l
  induction l with
  | nil=>intro _ _;trivial
  | cons env r ih =>
   intro hs hl
   obtain ⟨hk,⟨L,o,hf,hn,ho,hd⟩,hr⟩:=hl
   have hL:L∈X.fs:=hs L (by unfold frs;rw [List.filterMap_cons,hf];exact List.mem_cons_self)
   obtain ⟨sl,e⟩:=I.base.slot L o ho (I.ok.frf L hL) hL λz=>I.ok.exfs L z hL
   exact ⟨hk,⟨L,_,hf,hn,e,hd⟩,ih (λb hb=>hs b (by unfold frs;rw [List.filterMap_cons,hf];exact List.mem_cons_of_mem _ hb)) hr⟩
 exact all X.outer (λ_ hb=>hb) I.ok.funs
theorem Inv.stack (I:Inv X pins σ H s):s.heap.FunFrames X.base X.stack:=by
 rcases I.ok.stk with e | ⟨e,hf⟩
 ·rw [e];exact I.funs
 ·rw [e]
  obtain ⟨m,hn,_⟩:=I.loc
  refine .cons (by rw [I.ok.kind];decide) hf hn ?_ I.funs
  exact Heap.get?_none_of_le (Nat.le_trans I.ok.bsz I.ok.above)
theorem Inv.stkSub (I:Inv X pins σ H s):∀ b∈frs X.stack,b∈X.env.locals::X.fs:=λb hb=>by
 rcases I.ok.stk with e | ⟨e,hf⟩
 ·rw [e] at hb;exact List.mem_cons_of_mem _ hb
 ·rw [e] at hb
  unfold frs at hb
  rw [List.filterMap_cons,hf] at hb
  exact hb
theorem Inv.stkFree (I:Inv X pins σ H s):∀ b∈frs X.stack,H b=none:=λb hb=>by
 rcases List.mem_cons.mp (I.stkSub b hb) with e | hb
 ·rw [e];exact I.free
 ·obtain ⟨_,o,ho,_⟩:=I.ok.funs.mem hb
  exact I.base.free b o ho (I.ok.frf b hb) λz=>I.ok.exfs b z hb
theorem Inv.step {g':Array GenState}{t':Nat}{d':Drawn}{ch:List Addr} (I:Inv X pins σ H s)
  (hch:∀ b∈ch,(b∈X.ex\/X.s₀.heap.objs.size<=b)/\b≠X.env.locals/\(∀ x c,X.env.cells.lookup x=some c->c≠b)/\∀ p∈X.pn++pins,p.1≠b)
  (keep:∀ b o,b≠X.env.locals->b∉X.fs->b∉ch->s.heap.get? b=some o->H b=none->h'.get? b=some o)
  (slot:∀ b o,b≠X.env.locals->b∈X.fs->b∉ch->s.heap.get? b=some o->H b=none->∃ sl,h'.get? b=some { o with slots:=sl }) (free:∀ b o,b∉ch->s.heap.get? b=some o->H b=none->H' b=none)
  (there:∀ b o,b∉ch->s.heap.get? b=some o->∃ o',h'.get? b=some o')
  (tups:∀ b xs,H b=some (.tup xs)->H' b=some (.tup xs)) (frzs:∀ b o u,H b=some (.frz o u)->H' b=some (.frz o u)) (tbls:∀ b ps,H b=some (.tbl ps)->∃ more,H' b=some (.tbl (ps++more)))
  (ns:∀ m,s.heap.Ns X.env.locals m->h'.Ns X.env.locals m) (hok:HOk X.prog X.w H' h') (hg:AllBare g') :
  Inv X pins σ H' { s with heap:=h',gens:=g',drawn:=d',toks:=t' }:=by
 have neL:∀ b o,X.s₀.heap.get? b=some o->b≠X.env.locals:=λb o e=>Nat.ne_of_lt (Nat.lt_of_lt_of_le (Heap.lt_size e) I.ok.above)
 have neC:∀ b o,X.s₀.heap.get? b=some o->b∉X.ex->b∉ch:=λb o e hx hb=>by
  rcases (hch b hb).1 with z | z
  ·exact hx z
  ·exact absurd (Nat.lt_of_lt_of_le (Heap.lt_size e) z) (Nat.lt_irrefl _)
 have cellK:∀ x c,X.env.cells.lookup x=some c->∀ v,s.heap.IsCell c v->h'.IsCell c v:=λx c e v ⟨o,ho,hd⟩=>by
  have nch:c∉ch:=λz=>(hch c z).2.2.1 x c e rfl
  by_cases hc:c∈X.fs
  ·obtain ⟨sl,q⟩:=slot c o (I.cne x c e) hc nch ho (I.freeC x c e)
   exact ⟨_,q,hd⟩
  ·exact ⟨o,keep c o (I.cne x c e) hc nch ho (I.freeC x c e),hd⟩
 refine ⟨I.ok,I.os,hg,⟨λb o e n hb hx=>?_,λb o e n hb hx=>?_,λb o e n hx=>?_,λb o e hx=>?_,λb xs e=>tups b xs (I.base.tups b xs e),λb o xs e=>frzs b o xs (I.base.frzs b o xs e),λb ps e=>?_⟩,?_,λx c e=>?_,?_,λx c e=>?_,λp hp=>?_,hok,I.len⟩
 ·exact keep b o (neL b o e) hb (neC b o e hx) (I.base.keep b o e n hb hx) (I.base.free b o e n hx)
 ·obtain ⟨sl,e1⟩:=I.base.slot b o e n hb hx
  obtain ⟨sl',e2⟩:=slot b _ (neL b o e) hb (neC b o e hx) e1 (I.base.free b o e n hx)
  exact ⟨sl',e2⟩
 ·obtain ⟨o',e1⟩:=I.base.there b o e hx
  exact free b o' (neC b o e hx) e1 (I.base.free b o e n hx)
 ·obtain ⟨o',e1⟩:=I.base.there b o e hx
  exact there b o' (neC b o e hx) e1
 ·obtain ⟨m1,e1⟩:=I.base.tbls b ps e
  obtain ⟨m2,e2⟩:=tbls b _ e1
  exact ⟨m1++m2,by rw [e2,Array.append_assoc]⟩
 ·obtain ⟨m,hn,hl⟩:=I.loc
  refine ⟨m,ns m hn,λi x v e1 e2 e3=>?_⟩
  obtain ⟨u,r,l⟩:=hl i x v e1 e2 e3
  refine ⟨u,r,?_⟩
  rcases l with l | ⟨k,c,e,z⟩
  ·exact .inl l
  ·exact .inr ⟨k,c,e,cellK x c e _ z⟩
 ·obtain ⟨v,z⟩:=I.cell x c e
  exact ⟨v,cellK x c e v z⟩
 ·obtain ⟨m,⟨o,_,_,ho,_⟩,_⟩:=I.loc
  exact free _ o (λz=>(hch _ z).2.1 rfl) ho I.free
 ·obtain ⟨v,o,ho,hd⟩:=I.cell x c e
  exact free c o (λz=>(hch c z).2.2.1 x c e rfl) ho (I.freeC x c e)
 ·obtain ⟨e,n,ne,nf,d⟩:=I.pin p hp
  have nch:p.1∉ch:=λz=>(hch p.1 z).2.2.2 p hp rfl
  exact ⟨keep p.1 p.2 ne nf nch e n,free p.1 p.2 nch e n,ne,nf,d⟩
theorem Inv.un {t':Nat} (I:Inv X pins σ H s) (u:Un X.fs [] H H' s.heap h') (hok:HOk X.prog X.w H' h'):Inv X pins σ H' { s with heap:=h',toks:=t' }:=by
 obtain ⟨m,⟨o,es,ep,ho,r⟩,_⟩:=id I.loc
 obtain ⟨sl,hL⟩:=u.any ho I.free (by simp)
 exact I.step (g':=s.gens) (d':=s.drawn) (ch:=[]) (λ_ z=>nomatch z) (λb o _ hb _ e n=>u.keep b o e n hb (by simp)) (λb o _ hb _ e n=>u.slot b o e n hb (by simp)) (λb o _ e n=>u.free b o e n (by simp)) (λb o _ e=>u.there b o e (by simp)) u.tups u.frzs u.tbls (λm' hm=>by
  obtain ⟨o',es',ep',ho',r'⟩:=hm
  rw [ho] at ho';cases ho'
  exact ⟨_,es',ep',hL,r'⟩) hok I.bare
theorem Inv.call {g':Array GenState}{t':Nat}{d':Drawn}{ch:List Addr} (I:Inv X pins σ H s) (u:Un (frs X.stack) ch H H' s.heap h') (hok:HOk X.prog X.w H' h') (hg:AllBare g')
  (hch:∀ b∈ch,(b∈X.ex\/X.s₀.heap.objs.size<=b)/\b≠X.env.locals/\(∀ x c,X.env.cells.lookup x=some c->c≠b)/\∀ p∈X.pn++pins,p.1≠b) :
  Inv X pins σ H' { s with heap:=h',gens:=g',drawn:=d',toks:=t' }:=by
 obtain ⟨m,⟨o,es,ep,ho,r⟩,_⟩:=id I.loc
 obtain ⟨sl,hL⟩:=u.any ho I.free λz=>(hch _ z).2.1 rfl
 exact I.step (ch:=ch) hch (λb o hL hb hc e n=>u.keep b o e n (λz=>(List.mem_cons.mp (I.stkSub b z)).elim hL hb) hc) (λb o _ _ hc e n=>u.any e n hc) (λb o hc e n=>u.free b o e n hc) (λb o hc e=>u.there b o e hc) u.tups u.frzs u.tbls (λm' hm=>by
  obtain ⟨o',es',ep',ho',r'⟩:=hm
  rw [ho] at ho';cases ho'
  exact ⟨_,es',ep',hL,r'⟩) hok hg
theorem Inv.turned {t':Nat}{it:Addr} (I:Inv X pins σ H s) (k:∀ b o,b≠it->s.heap.get? b=some o->h'.get? b=some o) (hn:H it=none) (hL:it≠X.env.locals)
  (h1:it∈X.ex\/X.s₀.heap.objs.size<=it) (h2:∀ x c,X.env.cells.lookup x=some c->c≠it) (h3:∀ p∈X.pn++pins,p.1≠it):Inv X pins σ H { s with heap:=h',toks:=t' }:=by
 have nit:∀ b u,H b=some u->b≠it:=λb u e z=>by rw [z,hn] at e;cases e
 refine I.step (g':=s.gens) (d':=s.drawn) (ch:=[it]) (λb hb=>?_) (λb o _ _ hc e _=>k b o (λz=>hc (by simp [z])) e) (λb o _ _ hc e _=>⟨o.slots,k b o (λz=>hc (by simp [z])) e⟩) (λ_ _ _ _ n=>n)
  (λb o hc e=>⟨o,k b o (λz=>hc (by simp [z])) e⟩) (λ_ _ e=>e) (λ_ _ _ e=>e) (λb ps e=>⟨#[],by rw [e];simp⟩) (λm hm=>?_) (λb u e=>?_) I.bare
 ·have e:b=it:=by simpa using hb
  subst e
  exact ⟨h1,hL,h2,h3⟩
 ·obtain ⟨o,es,ep,ho,r⟩:=hm
  exact ⟨o,es,ep,k _ o (Ne.symm hL) ho,r⟩
 ·refine (I.hok b u e).stay (λc v hc q=>k c v ?_ q) (λ_ q=>q) λ_ _ q=>q
  rcases hc with z | z
  ·rw [z];exact nit b u e
  ·exact nit c _ z
theorem Inv.tok (I:Inv X pins σ H s) (t:Nat):Inv X pins σ H { s with toks:=t }:=I.un (h':=s.heap) (t':=t) Un.refl I.hok
theorem Inv.kept {t':Nat} (I:Inv X pins σ H s) (k:∀ b u,s.heap.get? b=some u->h'.get? b=some u):Inv X pins σ H { s with heap:=h',toks:=t' }:=I.un (Un.kept k) (I.hok.kept k)
theorem Inv.laid {a:Addr}{o:HO}{t':Nat} (I:Inv X pins σ H s) (k:∀ b u,s.heap.get? b=some u->h'.get? b=some u) (hp:s.heap.objs.size<=a) (new:ObjOk X.prog X.w (upd H a o) h' a o) :
  Inv X pins σ (upd H a o) { s with heap:=h',toks:=t' }:=I.un (Un.laid k hp (I.hok.fresh hp)) (I.hok.laid k hp new)
theorem Inv.write {x e:Addr}{o:HO}{t':Nat} (I:Inv X pins σ H s) (mu:Mut (H x)) (he:e=x\/H e=some (.own x)) (k:∀ b u,b≠e->s.heap.get? b=some u->h'.get? b=some u) (heo:∃ u,h'.get? e=some u)
  (new:ObjOk X.prog X.w (upd H x o) h' x o):Inv X pins σ (upd H x o) { s with heap:=h',toks:=t' }:=I.un (Un.write mu he k heo) (I.hok.write mu he k heo new)
theorem Inv.pins_of {pins':List (Addr×Obj)} (I:Inv X pins σ H s) (h:∀ p∈pins',s.heap.get? p.1=some p.2/\H p.1=none/\p.1≠X.env.locals/\p.1∉X.fs/\∀ v,p.2.data≠.cell v):Inv X pins' σ H s :=
 ⟨I.ok,I.os,I.bare,I.base,I.loc,I.cell,I.free,I.freeC,λp hp=>(List.mem_append.mp hp).elim (λz=>I.pin p (List.mem_append_left _ z)) (h p),I.hok,I.len⟩
theorem i4' {N:List Str} (hN:N.Nodup){i j:Nat}{x:Str} (a:N[i]?=some x) (b:N[j]?=some x):i=j:=by
 obtain ⟨h1,e1⟩:=List.getElem?_eq_some_iff.mp a
 obtain ⟨h2,e2⟩:=List.getElem?_eq_some_iff.mp b
 exact (List.getElem_inj hN).mp (e1.trans e2.symm)
theorem ic' {M:Model}{A:Around}{E:Value->Shared->Prop}{i:Nat}{x:Str}{v:V}{u:Value}{Q:Unit->Shared->Prop} (I:Inv X pins σ H s) (hN:X.N.Nodup) (hi:X.N[i]?=some x) (hx:Loc X.env.scope x) (r:RelV v u)
  (h:∀ s',Inv X pins (σ.set i (some v)) H s'->(∃ a,Heap.SameBut a s.heap s'.heap/\(a=X.env.locals\/X.env.cells.lookup x=some a))->Q () s') (hf:X.fn x=true\/X.env.scope.names.lookup x=some .local:=by first | exact .inl rfl | exact .inr rfl | assumption):wpAny M A (storeName X.env x u) Q E s:=by
 obtain ⟨m,hn,hl⟩:=id I.loc
 have hcls:(X.env.scope.kind == .class||(X.env.scope.kind == .module&&X.env.locals != X.env.globals))=false:=by rw [I.ok.kind];rfl
 have hiσ:i < σ.length:=by rw [I.len];exact (List.getElem?_eq_some_iff.mp hi).1
 have cne:=I.cne
 have tracked:∀ {a:Addr}{h':Heap},(∃ o,s.heap.get? a=some o/\H a=none)->Heap.SameBut a s.heap h'->HOk X.prog X.w H h':=λ{a h'} ha hs b ob e=>by
  obtain ⟨_,_,hfree⟩:=ha
  refine (I.hok b ob e).stay (λc w' hc q=>(hs.2 c ?_).trans q) (λ_ q=>q) λ_ _ q=>q
  rintro rfl
  rcases hc with rfl | hc
  ·rw [hfree] at e;cases e
  ·rw [hfree] at hc;cases hc
 rcases hx with hk | hk
 ·refine wpAny_storeName_local hk hn (λh' hn' hs=>?_) hcls
  obtain ⟨oL,_,_,hoL,_⟩:=id hn
  refine h _ ⟨I.ok,I.os,I.bare,⟨λb o e n hb hx=>?_,λb o e n hb hx=>?_,I.base.free,λb o e hx=>?_,I.base.tups,I.base.frzs,I.base.tbls⟩,⟨_,hn',λj y v' e1 e2 e3=>?_⟩,λy c e=>?_,I.free,I.freeC,λp hp=>?_,tracked ⟨oL,hoL,I.free⟩ hs,by simpa using I.len⟩ ⟨_,hs,.inl rfl⟩
  ·exact (hs.2 b (Nat.ne_of_lt (Nat.lt_of_lt_of_le (Heap.lt_size e) I.ok.above))).trans (I.base.keep b o e n hb hx)
  ·obtain ⟨sl,e1⟩:=I.base.slot b o e n hb hx
   exact ⟨sl,(hs.2 b (Nat.ne_of_lt (Nat.lt_of_lt_of_le (Heap.lt_size e) I.ok.above))).trans e1⟩
  ·obtain ⟨o',e1⟩:=I.base.there b o e hx
   exact ⟨o',(hs.2 b (Nat.ne_of_lt (Nat.lt_of_lt_of_le (Heap.lt_size e) I.ok.above))).trans e1⟩
  ·by_cases hj:j=i
   ·subst hj
    rw [hi] at e1;cases e1
    rw [List.getElem?_set_self hiσ] at e2
    cases e2
    exact ⟨u,r,.inl ⟨hk,by simp⟩⟩
   ·rw [List.getElem?_set_ne (Ne.symm hj)] at e2
    obtain ⟨u',r',q⟩:=hl j y v' e1 e2 e3
    refine ⟨u',r',?_⟩
    rcases q with ⟨k,e⟩ | ⟨k,c,e,z⟩
    ·refine .inl ⟨k,?_⟩
     have:y≠x:=λe=>hj (i4' hN e1 (e▸hi))
     simp [this,e]
    ·exact .inr ⟨k,c,e,z.sameBut hs (cne y c e)⟩
  ·obtain ⟨w',z⟩:=I.cell y c e
   exact ⟨w',z.sameBut hs (cne y c e)⟩
  ·obtain ⟨e,n,ne,nf,d⟩:=I.pin p hp
   exact ⟨(hs.2 p.1 ne).trans e,n,ne,nf,d⟩
 ·have hfn:X.fn x=true:=by
   rcases hf with z | z
   ·exact z
   ·rw [z] at hk;cases hk
  obtain ⟨c,hc⟩:=I.ok.has x (.inl hk)
  obtain ⟨w',z⟩:=I.cell x c hc
  refine wpAny_storeName_cell I.ok.kind hk hc z (λh' hc' hs=>?_)
  obtain ⟨oc,hoc,hocd⟩:=id z
  refine h { s with heap:=h' } ⟨I.ok,I.os,I.bare,⟨λb o e n hb hx=>?_,λb o e n hb hx=>?_,I.base.free,λb o e hx=>?_,I.base.tups,I.base.frzs,I.base.tbls⟩,⟨m,hn.sameBut hs (Ne.symm (cne x c hc)),λj y v' e1 e2 e3=>?_⟩,λy c' e=>?_,I.free,I.freeC,λp hp=>?_,tracked ⟨oc,hoc,I.freeC x c hc⟩ hs,by simpa using I.len⟩ ⟨c,hs,.inr hc⟩
  ·exact (hs.2 b (Nat.ne_of_lt (Nat.lt_of_lt_of_le (Heap.lt_size e) (I.ok.cab x c hfn hc)))).trans (I.base.keep b o e n hb hx)
  ·obtain ⟨sl,e1⟩:=I.base.slot b o e n hb hx
   exact ⟨sl,(hs.2 b (Nat.ne_of_lt (Nat.lt_of_lt_of_le (Heap.lt_size e) (I.ok.cab x c hfn hc)))).trans e1⟩
  ·obtain ⟨o',e1⟩:=I.base.there b o e hx
   exact ⟨o',(hs.2 b (Nat.ne_of_lt (Nat.lt_of_lt_of_le (Heap.lt_size e) (I.ok.cab x c hfn hc)))).trans e1⟩
  ·by_cases hj:j=i
   ·subst hj
    rw [hi] at e1;cases e1
    rw [List.getElem?_set_self hiσ] at e2
    cases e2
    exact ⟨u,r,.inr ⟨.inl hk,c,hc,hc'⟩⟩
   ·rw [List.getElem?_set_ne (Ne.symm hj)] at e2
    obtain ⟨u',r',q⟩:=hl j y v' e1 e2 e3
    refine ⟨u',r',?_⟩
    rcases q with q | ⟨k,c',e,z'⟩
    ·exact .inl q
    ·refine .inr ⟨k,c',e,z'.sameBut hs ?_⟩
     rintro rfl
     exact hj (i4' hN e1 (I.ok.inj _ _ _ e hc▸hi))
  ·by_cases hcc:c'=c
   ·subst hcc;exact ⟨_,hc'⟩
   ·obtain ⟨w2,z2⟩:=I.cell y c' e
    exact ⟨w2,z2.sameBut hs hcc⟩
  ·obtain ⟨e,n,ne,nf,d⟩:=I.pin p hp
   refine ⟨(hs.2 p.1 ?_).trans e,n,ne,nf,d⟩
   intro q
   rw [q,hoc] at e
   have q':oc=p.2:=Option.some.inj e
   exact d w' (by rw [← q'];exact hocd)
theorem i5' {M:Model}{A:Around}{E:Value->Shared->Prop}{i:Nat}{x:Str}{v:V}{u:Value}{Q:Unit->Shared->Prop} (I:Inv X pins σ H s) (hN:X.N.Nodup) (hi:X.N[i]?=some x) (hx:Loc X.env.scope x) (r:RelV v u)
  (h:∀ s',Inv X pins (σ.set i (some v)) H s'->Q () s') (hf:X.fn x=true\/X.env.scope.names.lookup x=some .local:=by first | exact .inl rfl | exact .inr rfl | assumption):wpAny M A (storeName X.env x u) Q E s :=
 ic' I hN hi hx r (λs' I' _=>h s' I') hf
theorem Inv.call' {s':Shared}{ch:List Addr} (I:Inv X pins σ H s) (ho:s'.os=s.os) (u:Un (frs X.stack) ch H H' s.heap s'.heap) (hok:HOk X.prog X.w H' s'.heap) (hg:AllBare s'.gens)
  (hch:∀ b∈ch,(b∈X.ex\/X.s₀.heap.objs.size<=b)/\b≠X.env.locals/\(∀ x c,X.env.cells.lookup x=some c->c≠b)/\∀ p∈X.pn++pins,p.1≠b):Inv X pins σ H' s':=by
 obtain ⟨h',g',d',t',o'⟩:=s'
 have e:o'=s.os:=ho
 subst e
 exact I.call (g':=g') (t':=t') (d':=d') u hok hg hch
end
abbrev XK:=Value->Option Addr->Hp->Prop
abbrev St:=List (Option V)
abbrev VK:=V->Hp->Prop
abbrev TE:=St->Hp->VK->Prop
abbrev TT:=St->Hp->(Bool->Hp->Prop)->Prop
abbrev TA:=St->Hp->(List V->Hp->Prop)->Prop
structure Ends where
 nx:St->Hp->Prop
 rt:VK
 bk:St->Hp->Prop:=λ_ _=>False
 ct:St->Hp->Prop:=λ_ _=>False
abbrev TS:=Ends->St->Hp->Prop
def EP (X:Cx) (pins:List (Addr×Obj)) (σ:St) (Q:VK) (u:Value) (s':Shared):Prop:=∃ v H',Inv X pins σ H' s'/\RelV v u/\Q v H'
def TP (X:Cx) (pins:List (Addr×Obj)) (σ:St) (Q:Bool->Hp->Prop) (b:Bool) (s':Shared):Prop:=∃ H',Inv X pins σ H' s'/\Q b H'
def AP (X:Cx) (pins:List (Addr×Obj)) (σ:St) (Q:List V->Hp->Prop) (us:List Value) (s':Shared):Prop:=∃ vs H',Inv X pins σ H' s'/\Vals vs us/\Q vs H'
def SP (X:Cx) (pins:List (Addr×Obj)) (D:Ends) (f:Flow) (s':Shared):Prop :=
 match f with
 | .next=>∃ σ' H',Inv X pins σ' H' s'/\D.nx σ' H'
 | .brk=>∃ σ' H',Inv X pins σ' H' s'/\D.bk σ' H'
 | .cont=>∃ σ' H',Inv X pins σ' H' s'/\D.ct σ' H'
 | .ret u=>∃ v σ' H',Inv X pins σ' H' s'/\RelV v u/\D.rt v H'
def PE (X:Cx) (e:Expr) (t:TE):Prop :=
 ∀ (pins:List (Addr×Obj)) (s:Shared) (σ:St) (H:Hp) (Q:VK),Inv X pins σ H s->t σ H Q->wpAny (model X.prog X.w) X.A (eval e X.env) (EP X pins σ Q) X.xe s
def PT (X:Cx) (e:Expr) (t:TT):Prop :=
 ∀ (pins:List (Addr×Obj)) (s:Shared) (σ:St) (H:Hp) (Q:Bool->Hp->Prop),Inv X pins σ H s->t σ H Q->wpAny (model X.prog X.w) X.A (isTrue e X.env (eval e X.env)) (TP X pins σ Q) X.xe s
def PW (X:Cx) (e:Expr) (t:TT):Prop :=
 ∀ (whole:Sem Value) (pins:List (Addr×Obj)) (s:Shared) (σ:St) (H:Hp) (Q:Bool->Hp->Prop),Inv X pins σ H s->t σ H Q->wpAny (model X.prog X.w) X.A (isTrue e X.env whole) (TP X pins σ Q) X.xe s
def PA (X:Cx) (es:List Expr) (t:TA):Prop :=
 ∀ (pos:Pos) (pins:List (Addr×Obj)) (s:Shared) (σ:St) (H:Hp) (Q:List V->Hp->Prop),Inv X pins σ H s->t σ H Q->wpAny (model X.prog X.w) X.A (spliced (backTo pos (starEach es X.env))) (AP X pins σ Q) X.xe s
def PS (X:Cx) (st:Stmt) (t:TS):Prop :=
 ∀ (pins:List (Addr×Obj)) (s:Shared) (σ:St) (H:Hp) (D:Ends),Inv X pins σ H s->t D σ H->wpAny (model X.prog X.w) X.A (exec st X.env) (SP X pins D) X.xe s
def PSs (X:Cx) (st:List Stmt) (t:TS):Prop :=
 ∀ (pins:List (Addr×Obj)) (s:Shared) (σ:St) (H:Hp) (D:Ends),Inv X pins σ H s->t D σ H->wpAny (model X.prog X.w) X.A (execs st X.env) (SP X pins D) X.xe s
theorem thn {α:Type}{t:Sem α}{Q Q':α->Shared->Prop}{M:Model}{A:Around}{E:Value->Shared->Prop}{s:Shared} (h:wpAny M A t Q E s) (hQ:∀ a s,Q a s->Q' a s):wpAny M A t Q' E s:=wpAny_mono h hQ λ_ _ x=>x
end L2
namespace L2
open PySem PySem.Spec PyProof.Rows
section
variable {X:Cx}
def tVar (i:Nat):TE:=λσ H Q=>∃ v,σ[i]?=some (some v)/\Q v H
def tC (v:V):TE:=λ_ H Q=>Q v H
theorem qC' {i:Nat}{x:Str}{pos:Pos} (hN:X.N[i]?=some x) (hv:Vis X.env.scope x) (hd:(x == ("__debug__":Str))=false:=by decide) (hcd:(x == ("__classdict__":Str))=false:=by decide):PE X (.Name x pos) (tVar i):=by
 intro pins s σ H Q I h
 obtain ⟨v,e,h⟩:=h
 obtain ⟨m,hn,hl⟩:=I.loc
 obtain ⟨u,r,l⟩:=hl i x v hN e hv
 have fin:EP X pins σ Q u s:=⟨v,H,I,r,h⟩
 rcases l with ⟨hk,hm⟩ | ⟨hk,c,hc,hcell⟩
 ·exact wpAny_Name (wpAny_loadName_local I.ok.kind hk hn hm fin) hd
 ·rcases hk with hk | hk
  ·exact wpAny_Name (wpAny_loadName_cell I.ok.kind hk hc hcell fin) hd
  ·exact wpAny_Name (wpAny_loadName_free I.ok.kind hk hc hcell fin hcd) hd
theorem qD' {i j pos}:PE X (.Constant (.int i) j pos) (tC (.int i)):=λ_ _ _ H _ I h=>wpAny_Constant_int ⟨.int i,H,I.tok _,⟨_,rfl⟩,h⟩
theorem rY' {b j pos}:PE X (.Constant (.bool b) j pos) (tC (.bl b)):=λ_ _ _ H _ I h=>Constant_bool ⟨.bl b,H,I,rfl,h⟩
theorem qE' {j pos}:PE X (.Constant .none j pos) (tC .non):=λ_ _ _ H _ I h=>Constant_none ⟨.non,H,I,rfl,h⟩
theorem qF' {x j pos}:PE X (.Constant (.str x) j pos) (tC (.str x)):=λ_ _ _ H _ I h=>Calls.Constant_str ⟨.str x,H,I.tok _,⟨_,rfl⟩,h⟩
def Gl (X:Cx) (x:Str):Prop:=X.env.kindOf x=some .globalImplicit
theorem kY' {E:Value->Shared->Prop}{pins:List (Addr×Obj)}{s:Shared}{σ:St}{H:Hp}{x:Str}{u:Value}{pos:Pos}{Q:Value->Shared->Prop} (I:Inv X pins σ H s) (hg:Gl X x) (hm:X.mg x=some u) (h:Q u s)
  (hd:(x == ("__debug__":Str))=false:=by decide):wpAny (model X.prog X.w) X.A (eval (.Name x pos) X.env) Q E s :=
 Calls.Name_function_global I.ok.kind hg (Calls.loadGlobal_global (by rw [I.ok.glob];exact I.mod.glob.keeps I.bk) hm h) hd
theorem cY' {E:Value->Shared->Prop}{pins:List (Addr×Obj)}{s:Shared}{σ:St}{H:Hp}{x:Str}{u:Value}{pos:Pos}{Q:Value->Shared->Prop} (I:Inv X pins σ H s) (hg:Gl X x) (hm:X.mg x=none) (hv:bootBuiltins x=some u) (h:Q u s)
  (hn:x ≠ "__name__":=by decide) (hd:(x == ("__debug__":Str))=false:=by decide):wpAny (model X.prog X.w) X.A (eval (.Name x pos) X.env) Q E s:=by
 obtain ⟨mb,h1,h2⟩:=I.mod.blt
 exact Calls.Name_function_global I.ok.kind hg (Calls.loadGlobal_builtin (by rw [I.ok.glob];exact I.mod.glob.keeps I.bk) hm (by rw [I.ok.blt];exact h1.keeps I.bk) ((h2 x hn).trans hv) h) hd
theorem ps' {x:Str}{v:V}{u:Value}{pos:Pos} (hg:Gl X x) (hm:X.mg x=some u) (r:RelV v u) (hd:(x == ("__debug__":Str))=false:=by decide):PE X (.Name x pos) (tC v) :=
 λ_ _ _ H _ I h=>kY' I hg hm ⟨v,H,I,r,h⟩ hd
theorem pt' {x:Str}{v:V}{u:Value}{pos:Pos} (hg:Gl X x) (hm:X.mg x=none) (hv:bootBuiltins x=some u) (r:RelV v u) (hn:x ≠ "__name__":=by decide) (hd:(x == ("__debug__":Str))=false:=by decide):PE X (.Name x pos) (tC v) :=
 λ_ _ _ H _ I h=>cY' I hg hm hv ⟨v,H,I,r,h⟩ hn hd
variable {a b:Expr}{ta tb:TE}{pos:Pos}
def PC (X:Cx) (op:CmpOp) (a b:Expr) (t:TE):Prop :=
 ∀ (pins:List (Addr×Obj)) (s:Shared) (σ:St) (H:Hp) (Q:VK),Inv X pins σ H s->t σ H Q →
  wpAny (model X.prog X.w) X.A (eval a X.env) (λv s₁=>wpAny (model X.prog X.w) X.A (eval b X.env) (λu s₂=>wpAny (model X.prog X.w) X.A (compareOp op v u) (EP X pins σ Q) X.xe s₂) X.xe s₁) X.xe s
def tB (t:TE):TT:=λσ H Q=>t σ H λx H1=>∃ c,x=.bl c/\Q c H1
theorem qG' {op:CmpOp}{t:TE} (h:PC X op a b t) (h1:behindInMarks op b=false:=by first | exact nobehind _ (by decide) (by decide) | rfl):PT X (.Compare a [op] [b] pos) (tB t):=by
 intro pins s σ H Q I hw
 refine wpAny_isTrue_Compare1 (thn (h pins s σ H _ I hw) λv s1 h1=>thn h1 λu s2 h2=>thn h2 λc s3 ⟨x,H1,I1,r1,q1⟩=>?_) h1
 obtain ⟨d,rfl,q⟩:=q1
 cases r1
 exact wpAny_truthy_bool ⟨H1,I1,q⟩
theorem qH' {e:Expr}{t:TE} (h:PE X e t) (he:∀ whole,isTrue e X.env whole=(do let v ← whole;standAt e.pos;holding [v] (truthy v)):=by intro _;rfl):PT X e (tB t):=by
 intro pins s σ H Q I hw
 refine isTrue_plain (thn (h pins s σ H _ I hw) λv s1 ⟨x,H1,I1,r1,q1⟩=>?_) (he _)
 obtain ⟨d,rfl,q⟩:=q1
 cases r1
 exact wpAny_truthy_bool ⟨H1,I1,q⟩
variable {tA tB':TT}{rest:List Expr}
def tAnd (t u:TT):TT:=λσ H Q=>t σ H λc H1=>if c=true then u σ H1 Q else Q false H1
def tOr (t u:TT):TT:=λσ H Q=>t σ H λc H1=>if c=true then Q true H1 else u σ H1 Q
def tNot (t:TT):TT:=λσ H Q=>t σ H λc H1=>Q (!c) H1
theorem pu' (ha:PT X a tA):PW X (.BoolOp .And [a] pos) tA:=by
 intro wh pins s σ H Q I h
 refine isTrue_and (thn (ha pins s σ H Q I h) λc s1 e=>?_)
 cases c with
 | true=>exact isTrue_and_nil e
 | false=>exact e
theorem qI' (ha:PT X a tA):PW X (.BoolOp .Or [a] pos) tA:=by
 intro wh pins s σ H Q I h
 refine isTrue_or (thn (ha pins s σ H Q I h) λc s1 e=>?_)
 cases c with
 | false=>exact isTrue_or_nil e
 | true=>exact e
theorem qJ' (ha:PT X a tA) (hb:PW X (.BoolOp .And (b::rest) pos) tB'):PW X (.BoolOp .And (a::b::rest) pos) (tAnd tA tB'):=by
 intro wh pins s σ H Q I h
 refine isTrue_and (thn (ha pins s σ H _ I h) λc s1 ⟨H1,I1,q1⟩=>?_)
 cases c with
 | true=>exact hb wh pins s1 σ H1 Q I1 q1
 | false=>exact ⟨H1,I1,q1⟩
theorem rZ' (ha:PT X a tA) (hb:PW X (.BoolOp .Or (b::rest) pos) tB'):PW X (.BoolOp .Or (a::b::rest) pos) (tOr tA tB'):=by
 intro wh pins s σ H Q I h
 refine isTrue_or (thn (ha pins s σ H _ I h) λc s1 ⟨H1,I1,q1⟩=>?_)
 cases c with
 | true=>exact ⟨H1,I1,q1⟩
 | false=>exact hb wh pins s1 σ H1 Q I1 q1
theorem qK' (ha:PT X a tA):PT X (.UnaryOp .Not a pos) (tNot tA):=by
 intro pins s σ H Q I h
 exact isTrue_not (ha pins s σ H (λc H1=>Q (!c) H1) I h)
def tAndV (ta tb:TE):TE:=λσ H Q=>ta σ H λx H1=>∃ c,x=.bl c/\if c=true then tb σ H1 Q else Q (.bl false) H1
def tNotV (ta:TE):TE:=λσ H Q=>ta σ H λx H1=>∃ c,x=.bl c/\Q (.bl (!c)) H1
theorem qL' {op}{t:TE} (h:PE X a t):PE X (.BoolOp op [a] pos) t:=λpins s σ H Q I hw=>BoolOp_one (h pins s σ H Q I hw)
theorem qM' (ha:PE X a ta) (hb:PE X (.BoolOp .And (b::rest) pos) tb):PE X (.BoolOp .And (a::b::rest) pos) (tAndV ta tb):=by
 intro pins s σ H Q I h
 refine BoolOp_and (thn (ha pins s σ H _ I h) λv s1 ⟨x,H1,I1,r1,q1⟩=>?_)
 obtain ⟨c,rfl,q1⟩:=q1
 cases r1
 refine wpAny_truthy_bool ?_
 cases c with
 | true=>exact hb pins s1 σ H1 Q I1 q1
 | false=>exact ⟨.bl false,H1,I1,rfl,q1⟩
theorem qN' (ha:PE X a ta):PE X (.UnaryOp .Not a pos) (tNotV ta):=by
 intro pins s σ H Q I h
 refine UnaryOp_ (thn (ha pins s σ H _ I h) λv s1 ⟨x,H1,I1,r1,q1⟩=>?_)
 obtain ⟨c,rfl,q1⟩:=q1
 cases r1
 exact not_of (wpAny_truthy_bool ⟨.bl (!c),H1,I1,rfl,q1⟩)
def tIf (t:TT) (ta tb:TE):TE:=λσ H Q=>t σ H λc H1=>if c=true then ta σ H1 Q else tb σ H1 Q
theorem oe' {c:Expr} (hc:PT X c tA) (ha:PE X a ta) (hb:PE X b tb):PE X (.IfExp c a b pos) (tIf tA ta tb):=by
 intro pins s σ H Q I h
 refine wpAny_IfExp (thn (hc pins s σ H _ I h) λd s1 ⟨H1,I1,q1⟩=>?_)
 cases d with
 | true=>exact ha pins s1 σ H1 Q I1 q1
 | false=>exact hb pins s1 σ H1 Q I1 q1
end
end L2
namespace L2
open PySem PySem.Spec PyProof.Rows
def SqL (K:PySem.W.Frag) (H:Hp) (a:Addr) (xs:List V):Prop :=
 Rd H a (.lst xs) ∨
  ∃ (o:Obj) (its:Array Value) (n:Nat),K.lookup a=some o/\o.cls=.type "list"/\o.dict=none/\o.data=.seq its n/\its.size<=sizeLine/\Vals xs its.toList
def SqT (K:PySem.W.Frag) (H:Hp) (a:Addr) (xs:List V):Prop :=
 Rd H a (.tup xs) ∨
  ∃ (o:Obj) (its:Array Value) (n:Nat),K.lookup a=some o/\o.cls=.type "tuple"/\o.data=.seq its n/\its.size<=sizeLine/\Vals xs its.toList
def absV:Value->Option V
 | .none=>some .non
 | .bool b=>some (.bl b)
 | .int i _=>some (.int i)
 | .str x _=>some (.str x)
 | .bytes b _=>some (.byt b)
 | .float b _=>some (.flt b)
 | .ref a=>some (.ref a)
 | .type n=>some (.ty n)
 | _=>none
theorem RelV.abs {x:V}{u:Value} (r:RelV x u):absV u=some x:=by
 cases x with
 | non=>cases r;rfl
 | bl _=>cases r;rfl
 | int _=>obtain ⟨t,rfl⟩:=r;rfl
 | str _=>obtain ⟨t,rfl⟩:=r;rfl
 | byt _=>obtain ⟨t,rfl⟩:=r;rfl
 | flt _=>obtain ⟨t,rfl⟩:=r;rfl
 | ref _=>cases r;rfl
 | ty _=>cases r;rfl
theorem RelV.inj {x y:V}{u:Value} (r:RelV x u) (q:RelV y u):x=y:=Option.some.inj (r.abs.symm.trans q.abs)
theorem Vals.inj:∀ {xs ys:List V}{us:List Value},Vals xs us->Vals ys us->xs=ys
 | _,_,_,.nil,.nil=>rfl
 | _,_,_,.cons r t,.cons r' t'=>by rw [r.inj r',Vals.inj t t']
section
variable {X:Cx}{pins:List (Addr×Obj)}{σ:St}{H:Hp}{s:Shared}{a:Addr}{xs ys:List V}
theorem SqL.of {K:PySem.W.Frag} (h:H a=some (.lst xs)):SqL K H a xs:=.inl (.inl h)
theorem SqT.of {K:PySem.W.Frag} (h:H a=some (.tup xs)):SqT K H a xs:=.inl (.inl h)
theorem Inv.list (I:Inv X pins σ H s) (h:SqL X.K H a xs):∃ its:List Value,Vals xs its/\PlainL s.heap a its.toArray/\xs.length<=sizeLine:=by
 rcases h with h | ⟨o,its,n,hk,hc,hd,hs,hz,r⟩
 ·obtain ⟨z,its,n,r,e⟩:=h.ok I.hok
  exact ⟨its,r,⟨_,n,e,rfl,rfl,rfl⟩,z⟩
 ·refine ⟨its.toList,r,⟨o,n,I.kIn a o hk,hc,hd,by simpa using hs⟩,?_⟩
  have e:=r.length
  simp only [Array.length_toList] at e
  omega
theorem Inv.tuple (I:Inv X pins σ H s) (h:SqT X.K H a xs):∃ its:List Value,Vals xs its/\IsTup s.heap a its.toArray/\xs.length<=sizeLine:=by
 rcases h with h | ⟨o,its,n,hk,hc,hs,hz,r⟩
 ·obtain ⟨z,its,r,p⟩:=h.ok I.hok
  exact ⟨its,r,p,z⟩
 ·refine ⟨its.toList,r,⟨o,I.kIn a o hk,hc,n,by simpa using hs⟩,?_⟩
  have e:=r.length
  simp only [Array.length_toList] at e
  omega
theorem Inv.list_inj (I:Inv X pins σ H s) (h:SqL X.K H a xs) (h':SqL X.K H a ys):xs=ys:=by
 obtain ⟨its,r,⟨o,n,e,_,_,d⟩,_⟩:=I.list h
 obtain ⟨its',r',⟨o',n',e',_,_,d'⟩,_⟩:=I.list h'
 rw [e] at e';cases e'
 rw [d] at d'
 injection d' with d1 _
 have:its=its':=by simpa using congrArg Array.toList d1
 subst this
 exact r.inj r'
theorem Inv.tuple_inj (I:Inv X pins σ H s) (h:SqT X.K H a xs) (h':SqT X.K H a ys):xs=ys:=by
 obtain ⟨its,r,⟨o,e,_,n,d⟩,_⟩:=I.tuple h
 obtain ⟨its',r',⟨o',e',_,n',d'⟩,_⟩:=I.tuple h'
 rw [e] at e';cases e'
 rw [d] at d'
 injection d' with d1 _
 have:its=its':=by simpa using congrArg Array.toList d1
 subst this
 exact r.inj r'
end
abbrev Cx.wish (X:Cx) (E:Value->Shared->Prop):Cx:={ X with xe:=E }
abbrev Cx.nox (X:Cx):Cx:=X.wish λ_ _=>False
theorem Cx.Ok.wish {X:Cx} (ok:X.Ok) (E:Value->Shared->Prop):(X.wish E).Ok :=
 ⟨ok.mod,ok.kind,ok.glob,ok.blt,ok.above,ok.inj,ok.has,ok.cab,ok.hd,ok.frames,ok.stk,ok.exf,ok.bs,ok.bsz,ok.noex,ok.exfs,ok.funs,ok.frf⟩
theorem Cx.Ok.unwish {X:Cx}{E:Value->Shared->Prop} (ok:(X.wish E).Ok):X.Ok :=
 ⟨ok.mod,ok.kind,ok.glob,ok.blt,ok.above,ok.inj,ok.has,ok.cab,ok.hd,ok.frames,ok.stk,ok.exf,ok.bs,ok.bsz,ok.noex,ok.exfs,ok.funs,ok.frf⟩
section
variable {X:Cx}{pins:List (Addr×Obj)}{σ:St}{H:Hp}{s:Shared}{E:Value->Shared->Prop}
theorem Inv.wish (I:Inv X pins σ H s) (E:Value->Shared->Prop):Inv (X.wish E) pins σ H s:=⟨I.ok.wish E,I.os,I.bare,I.base,I.loc,I.cell,I.free,I.freeC,I.pin,I.hok,I.len⟩
theorem Inv.unwish (I:Inv (X.wish E) pins σ H s):Inv X pins σ H s:=⟨I.ok.unwish,I.os,I.bare,I.base,I.loc,I.cell,I.free,I.freeC,I.pin,I.hok,I.len⟩
theorem SP.unwish {D:Ends}{f:Flow}{s':Shared} (h:SP (X.wish E) pins D f s'):SP X pins D f s':=by
 cases f with
 | next=>obtain ⟨σ',H',I,q⟩:=h;exact ⟨σ',H',I.unwish,q⟩
 | brk=>obtain ⟨σ',H',I,q⟩:=h;exact ⟨σ',H',I.unwish,q⟩
 | cont=>obtain ⟨σ',H',I,q⟩:=h;exact ⟨σ',H',I.unwish,q⟩
 | ret u=>obtain ⟨v,σ',H',I,r,q⟩:=h;exact ⟨v,σ',H',I.unwish,r,q⟩
theorem PSs.nox {st:List Stmt}{t:TS} (h:PSs X.nox st t):PSs X st t:=λpins s σ H D I hw =>
 wpAny_mono (h pins s σ H D (I.wish _) hw) (λ_ _ q=>q.unwish) λ_ _ z=>False.elim z
end
section
variable {X:Cx}{st:Stmt}{rest:List Stmt}{t u:TS}{e:Expr}{te:TE}{pos:Pos}
def tNext:TS:=λD σ H=>D.nx σ H
def tSeq (t u:TS):TS:=λD σ H=>t { D with nx:=u D } σ H
theorem pv':PSs X [] tNext:=λ_ _ σ H _ I h=>wpAny_execs_nil ⟨σ,H,I,h⟩
theorem of' (h1:PS X st t) (h2:PSs X rest u):PSs X (st::rest) (tSeq t u):=by
 intro pins s σ H D I h
 refine wpAny_execs_cons (thn (h1 pins s σ H { D with nx:=u D } I h) λf s1 q=>?_)
 cases f with
 | next =>
  obtain ⟨σ',H',I',q⟩:=q
  exact h2 pins s1 σ' H' D I' q
 | ret v=>exact q
 | brk=>exact q
 | cont=>exact q
theorem pw' (h1:PS X st t):PSs X [st] t:=by
 intro pins s σ H D I h
 refine wpAny_execs_cons (thn (h1 pins s σ H D I h) λf s1 q=>?_)
 cases f with
 | next=>exact wpAny_execs_nil q
 | ret v=>exact q
 | brk=>exact q
 | cont=>exact q
theorem Inv.quiet {pins:List (Addr×Obj)}{σ:St}{H:Hp}{s:Shared} (I:Inv X pins σ H s):interactive X.env=false:=by simp [interactive,I.ok.kind]
def tDrop (te:TE):TS:=λD σ H=>te σ H λ_ H1=>D.nx σ H1
theorem hE' (he:PE X e te) (hs:swapsWith e none pos.line X.env=pure false:=by rfl):PS X (.Expr e pos) (tDrop te):=by
 intro pins s σ H D I h
 exact wpAny_Expr_any (thn (he pins s σ H _ I h) λv s1 ⟨x,H1,I1,r1,q1⟩=>⟨σ,H1,I1,q1⟩) I.quiet hs
def tRet (te:TE):TS:=λD σ H=>te σ H D.rt
theorem i6' (he:PE X e te):PS X (.Return (some e) pos) (tRet te):=by
 intro pins s σ H D I h
 exact wpAny_Return_some (thn (he pins s σ H _ I h) λv s1 ⟨x,H1,I1,r1,q1⟩=>⟨x,σ,H1,I1,r1,q1⟩)
def tIfS (c:TT) (t u:TS):TS:=λD σ H=>c σ H λb H1=>if b=true then t D σ H1 else u D σ H1
theorem r0' {c:Expr}{a b:List Stmt}{tc:TT} (hc:PT X c tc) (ha:PSs X a t) (hb:PSs X b u):PS X (.If c a b pos) (tIfS tc t u):=by
 intro pins s σ H D I h
 refine wpAny_If (thn (hc pins s σ H _ I h) λd s1 ⟨H1,I1,q1⟩=>?_)
 cases d with
 | true=>exact ha pins s1 σ H1 D I1 q1
 | false=>exact hb pins s1 σ H1 D I1 q1
def tNever:TS:=λ_ _ _=>False
theorem og':PS X st tNever:=λ_ _ _ _ _ _ h=>h.elim
end
abbrev TG:=V->St->Hp->(St->Hp->Prop)->Prop
abbrev TGs:=List V->St->Hp->(St->Hp->Prop)->Prop
def PG (X:Cx) (target:Expr) (t:TG):Prop :=
 ∀ (pins:List (Addr×Obj)) (s:Shared) (σ:St) (H:Hp) (v:V) (u:Value) (Q:St->Hp->Prop),Inv X pins σ H s->RelV v u->t v σ H Q →
  wpAny (model X.prog X.w) X.A (assign target X.env u) (λ_ s'=>∃ σ' H',Inv X pins σ' H' s'/\Q σ' H') X.xe s
def PGs (X:Cx) (ts:List Expr) (t:TGs):Prop :=
 ∀ (pins:List (Addr×Obj)) (s:Shared) (σ:St) (H:Hp) (vs:List V) (us:List Value) (Q:St->Hp->Prop),Inv X pins σ H s->Vals vs us->t vs σ H Q →
  wpAny (model X.prog X.w) X.A (assignInOrder ((assignEach ts X.env).map (·.2)) us) (λ_ s'=>∃ σ' H',Inv X pins σ' H' s'/\Q σ' H') X.xe s
abbrev TSet:=V->V->V->Hp->(Hp->Prop)->Prop
def PSet (X:Cx) (t:TSet):Prop :=
 ∀ (pins:List (Addr×Obj)) (s:Shared) (σ:St) (H:Hp) (o i v:V) (ov iv u:Value) (Q:Hp->Prop),Inv X pins σ H s->RelV o ov->RelV i iv->RelV v u->t o i v H Q →
  wpAny (model X.prog X.w) X.A (setItem ov iv u) (λ_ s'=>∃ H',Inv X pins σ H' s'/\Q H') X.xe s
section
variable {X:Cx}{pos:Pos}
def gName (i:Nat):TG:=λv σ H Q=>Q (σ.set i (some v)) H
theorem px' {i:Nat}{x:Str} (hN:X.N.Nodup) (hi:X.N[i]?=some x) (hx:Loc X.env.scope x) (hf:X.fn x=true\/X.env.scope.names.lookup x=some .local:=by first | exact .inl rfl | exact .inr rfl | assumption):PG X (.Name x pos) (gName i):=by
 intro pins s σ H v u Q I r h
 exact wpAny_assign_Name (i5' I hN hi hx r (λs' I'=>⟨_,H,I',h⟩) hf)
def gNil:TGs:=λvs σ H Q=>vs=[]/\Q σ H
def gCons (t:TG) (u:TGs):TGs:=λvs σ H Q=>∃ v r,vs=v::r/\t v σ H λσ' H'=>u r σ' H' Q
theorem py':PGs X [] gNil:=by
 intro pins s σ H vs us Q I r h
 obtain ⟨e,h⟩:=h
 subst e
 cases r
 exact assignInOrder_nil ⟨σ,H,I,h⟩
theorem oh' {e:Expr}{es:List Expr}{t:TG}{u:TGs} (h1:PG X e t) (h2:PGs X es u)
  (hs:(assignEach (e::es) X.env).map (·.2)=assign e X.env::(assignEach es X.env).map (·.2):=by rfl):PGs X (e::es) (gCons t u):=by
 intro pins s σ H vs us Q I r h
 obtain ⟨v,vr,e1,h⟩:=h
 subst e1
 cases r with
 | cons r rr =>
  rw [hs]
  refine assignInOrder_cons (thn (h1 pins s σ H _ _ _ I r h) λ_ s1 ⟨σ1,H1,I1,q1⟩=>?_)
  exact h2 pins s1 σ1 H1 _ _ Q I1 rr q1
def gTup (K:PySem.W.Frag) (n:Nat) (t:TGs):TG:=λv σ H Q=>∃ a xs,v=.ref a/\SqT K H a xs/\xs.length=n/\t xs σ H Q
theorem qO' {es:List Expr}{k:Nat}{t:TGs}{n:Nat} (hc:X.calm=true) (h:PGs X es t)
  (hn:(assignEach es X.env).length=n:=by rfl) (hst:(assignEach es X.env).findIdx? (·.1)=none:=by rfl):PG X (.Tuple es k pos) (gTup X.K n t):=by
 intro pins s σ H v u Q I r hw
 obtain ⟨a,xs,e1,hq,hl,hw⟩:=hw
 subst e1
 cases r
 obtain ⟨its,rv,ht,hz⟩:=I.tuple hq
 refine assign_Tuple_tuple (I.ok.hd hc) ht (by simp [hn,← hl,rv.length]) hst λh' hx=>?_
 have I1:Inv X pins σ H { s with heap:=h' }:=I.kept (t':=s.toks) λb o e=>hx b o (Nat.ne_of_lt (Heap.lt_size e)) e
 exact h pins _ σ H xs _ Q I1 (by simpa using rv) hw
def gSub (to ti:TE) (t:TSet):TG:=λv σ H Q=>to σ H λo H1=>ti σ H1 λi H2=>t o i v H2 λH3=>Q σ H3
theorem qP' {o i:Expr}{to ti:TE}{t:TSet} (ho:PE X o to) (hi:PE X i ti) (hs:PSet X t)
  (ha:∀ v,assign (.Subscript o i pos) X.env v=(do
   let ov ← holding [v] (eval o X.env)
   let iv ← holding [v,ov] (eval i X.env)
   standAt pos
   holding [v,ov,iv] (setItem ov iv v)
   release [v,ov,iv] []):=by intro _;rfl):PG X (.Subscript o i pos) (gSub to ti t):=by
 intro pins s σ H v u Q I r h
 rw [ha]
 refine wpAny_bind (wpAny_holding (thn (ho pins s σ H _ I h) λov s1 ⟨x,H1,I1,r1,q1⟩=>?_))
 refine wpAny_bind (wpAny_holding (thn (hi pins s1 σ H1 _ I1 q1) λiv s2 ⟨y,H2,I2,r2,q2⟩=>?_))
 refine wpAny_bind (wpAny_standAt (wpAny_bind (wpAny_holding (thn (hs pins s2 σ H2 x y v ov iv u _ I2 r1 r2 r q2) λ_ s3 ⟨H3,I3,q3⟩=>?_))))
 exact wpAny_release ⟨σ,H3,I3,q3⟩
def tAsg (te:TE) (g:TG):TS:=λD σ H=>te σ H λx H1=>g x σ H1 D.nx
theorem mC' {tg e:Expr}{te:TE}{g:TG} (he:PE X e te) (hg:PG X tg g) (hs:swapsWithSole [tg] e pos.line X.env=pure false:=by rfl) (hw:swappedStores [tg] e X.env=pure none:=by rfl)
  (h1:(assignEach [tg] X.env).map (·.2)=[assign tg X.env]:=by rfl):PS X (.Assign [tg] e pos) (tAsg te g):=by
 intro pins s σ H D I h
 refine wpAny_Assign_stores (thn (he pins s σ H _ I h) λv s1 ⟨x,H1,I1,r1,q1⟩=>?_) hs hw
 rw [h1]
 exact thn (hg pins s1 σ H1 x v _ I1 r1 q1) λ_ s2 q=>q
theorem i7' {i:Nat}{x:Str}{e:Expr}{te:TE}{pos':Pos} (hN:X.N.Nodup) (hi:X.N[i]?=some x) (hx:Loc X.env.scope x) (he:PE X e te) (hs:swapsWith e (some (.Name x pos')) pos.line X.env=pure false:=by rfl) (hf:X.fn x=true\/X.env.scope.names.lookup x=some .local:=by first | exact .inl rfl | exact .inr rfl | assumption) :
  PS X (.Assign [.Name x pos'] e pos) (tAsg te (gName i)):=by
 intro pins s σ H D I h
 refine wpAny_Assign_Name (thn (he pins s σ H _ I h) λv s1 ⟨y,H1,I1,r1,q1⟩=>?_) hs
 exact i5' I1 hN hi hx r1 (λs2 I2=>⟨_,H1,I2,q1⟩) hf
end
section
variable {X:Cx}{pos:Pos}
def tWhile (c:TT) (tb:TS):TS:=λD σ H=>∃ W:Nat->St->Hp->Prop,(∃ m,W m σ H)/\∀ m σ H,W m σ H →
 c σ H λb H1=>if b=true then ∃ N:St->Hp->Prop,(∀ σ' H',N σ' H'->∃ m',m' < m/\W m' σ' H')/\tb { D with nx:=N,ct:=N,bk:=D.nx } σ H1 else D.nx σ H1
theorem oi' {c:Expr}{body:List Stmt}{tc:TT}{tb:TS} (hp:PassesOwn (model X.prog X.w) X.A X.env X.xe) (hc:PT X c tc) (hb:PSs X body tb):PS X (.While c body [] pos) (tWhile tc tb):=by
 intro pins s σ H D I h
 obtain ⟨W,⟨m0,w0⟩,turn⟩:=h
 refine wpAny_While (codeAny_whileLoop (λn s'=>∃ σ' H',Inv X pins σ' H' s'/\W n σ' H') ?_ m0 ⟨σ,H,I,w0⟩)
 rintro n s1 ⟨σ1,H1,I1,w1⟩
 refine wpAny_passesOwn hp (thn (hc pins s1 σ1 H1 _ I1 (turn n σ1 H1 w1)) λb s2 ⟨H2,I2,q2⟩=>?_)
 cases b with
 | true =>
  obtain ⟨N,hN,q2⟩:=q2
  rw [if_pos rfl]
  refine wpAny_passesOwn hp (thn (hb pins s2 σ1 H2 _ I2 q2) λf s3 q3=>?_)
  cases f with
  | next =>
   obtain ⟨σ3,H3,I3,n3⟩:=q3
   obtain ⟨m',hm,w3⟩:=hN σ3 H3 n3
   exact ⟨m',hm,σ3,H3,I3,w3⟩
  | cont =>
   obtain ⟨σ3,H3,I3,n3⟩:=q3
   obtain ⟨m',hm,w3⟩:=hN σ3 H3 n3
   exact ⟨m',hm,σ3,H3,I3,w3⟩
  | brk=>exact q3
  | ret v=>exact q3
 | false =>
  rw [if_neg Bool.false_ne_true]
  exact wpAny_execs_nil ⟨σ1,H2,I2,q2⟩
end
structure It where
 go:Nat->Hp->Prop
 yld:Nat->Hp->V->Hp->Prop
 stop:Nat->Hp->Prop
def FpOk (X:Cx) (pins:List (Addr×Obj)) (H:Hp) (b:Addr):Prop :=
 H b=none/\b≠X.env.locals/\b∉X.fs/\(b∈X.ex\/X.s₀.heap.objs.size<=b)/\(∀ x c,X.env.cells.lookup x=some c->c≠b)/\∀ p∈X.pn++pins,p.1≠b
theorem Inv.fpOk {X:Cx}{pins:List (Addr×Obj)}{σ:St}{H H':Hp}{s:Shared}{b:Addr} (I:Inv X pins σ H s) (hb:s.heap.objs.size<=b) (hn:H' b=none):FpOk X pins H' b:=by
 refine ⟨hn,Nat.ne_of_gt (Nat.lt_of_lt_of_le I.lt hb),I.nofs hb,.inr (Nat.le_trans I.sz hb),λx c e z=>?_,λp hp z=>?_⟩
 ·obtain ⟨v,q⟩:=I.cell x c e
  exact absurd (Nat.lt_of_lt_of_le q.lt (by rw [z];exact hb)) (Nat.lt_irrefl _)
 ·exact absurd (Nat.lt_of_lt_of_le (Heap.lt_size (I.pin p hp).1) (by rw [z];exact hb)) (Nat.lt_irrefl _)
structure Turn (P:Program) (w:World) (K:PySem.W.Frag) (tg:Expr) (J:It) (fp:List Addr) (it:Addr) (tn:Nat->Heap->Prop):Prop where
 mem:it∈fp
 obj:∀ i h,tn i h->∀ b∈fp,∃ o,h.get? b=some o/\∀ v,o.data≠.cell v
 keep:∀ i h h',tn i h->(∀ b∈fp,∀ o,h.get? b=some o->h'.get? b=some o)->tn i h'
 item:∀ (X:Cx),X.prog=P->X.w=w->X.K=K->X.calm=true->∀ (i:Nat) (pins:List (Addr×Obj)) (s:Shared) (σ:St) (H:Hp) (E:Value->Shared->Prop),Inv X pins σ H s->(∀ b∈fp,FpOk X pins H b)->tn i s.heap->J.go i H →
  wpAny (model P w) X.A (pyNext (.ref it)) (λr s1=>∃ u,r=some u ∧
   wpAny (model P w) X.A (letOwnedTupleGo tg (.ref it) u) (λ_ s2=>∃ x H',Inv X pins σ H' s2/\RelV x u/\J.yld i H x H'/\tn (i+1) s2.heap/\∀ b∈fp,H' b=none) E s1) E s
 done:∀ (X:Cx),X.prog=P->X.w=w->X.K=K->X.calm=true->∀ (i:Nat) (pins:List (Addr×Obj)) (s:Shared) (σ:St) (H:Hp) (E:Value->Shared->Prop),Inv X pins σ H s->(∀ b∈fp,FpOk X pins H b)->tn i s.heap->J.stop i H →
  wpAny (model P w) X.A (pyNext (.ref it)) (λr s1=>r=none/\Inv X pins σ H s1) E s
 self:∀ (A:Around) (i:Nat) (s:Shared) (Q:Value->Shared->Prop) (E:Value->Shared->Prop),tn i s.heap->Q (.ref it) s->wpAny (model P w) A (pyIter (.ref it)) Q E s
abbrev TI:=St->Hp->(It->Hp->Prop)->Prop
def PIE (X:Cx) (pins:List (Addr×Obj)) (σ:St) (tg:Expr) (R:It->Hp->Prop) (itv:Value) (s2:Shared):Prop :=
 ∃ (it:Addr) (fp:List Addr) (tn:Nat->Heap->Prop) (J:It) (H':Hp),itv=.ref it/\Inv X pins σ H' s2/\Turn X.prog X.w X.K tg J fp it tn/\tn 0 s2.heap/\(∀ b∈fp,FpOk X pins H' b)/\R J H'
def PI (X:Cx) (tg iter:Expr) (wi:TI):Prop :=
 ∀ (pins:List (Addr×Obj)) (s:Shared) (σ:St) (H:Hp) (R:It->Hp->Prop),Inv X pins σ H s->wi σ H R →
  wpAny (model X.prog X.w) X.A (eval iter X.env) (λv s1=>wpAny (model X.prog X.w) X.A (pyIter v) (PIE X pins σ tg R) X.xe s1) X.xe s
theorem lD' {M:Model}{A:Around}{E:Value->Shared->Prop}{s:Shared}{tg:Expr}{it:Addr}{u:Value}{o:Obj}{n:String}{vs:Array Value}{Q:Unit->Shared->Prop} (ho:s.heap.get? it=some o) (hc:o.cls=.type n) (hd:o.data=.fields vs)
  (hn:["enumerate", "zip", "dict_itemiterator", "dict_reverseitemiterator", "odict_iterator", "itertools.zip_longest", "itertools.pairwise"].contains n=false) (hQ:Q () s):wpAny M A (letOwnedTupleGo tg (.ref it) u) Q E s:=by
 unfold letOwnedTupleGo
 cases tg<;>first
  | exact wpAny_pure hQ
  | (cases u<;>first
    | exact wpAny_pure hQ
    | (refine wpAny_bind (wpAny_load ho ?_)
       rw [hc,hd]
       show wpAny M A (if (["enumerate", "zip", "dict_itemiterator", "dict_reverseitemiterator", "odict_iterator", "itertools.zip_longest", "itertools.pairwise"].contains n&&vs[0]? == some (rawInt _))=true then _ else _) Q E s
       rw [if_neg (by intro h;rw [hn,Bool.false_and] at h;cases h)]
       exact wpAny_pure hQ))
def Itl (K:PySem.W.Frag) (a:Addr):It :=
 ⟨λi H=>∃ xs x,SqL K H a xs/\xs[i]?=some x,λi H x H'=>H'=H/\∀ xs,SqL K H a xs->xs[i]?=some x,λi H=>∃ xs,SqL K H a xs/\xs.length<=i⟩
def Itt (K:PySem.W.Frag) (a:Addr):It :=
 ⟨λi H=>∃ xs x,SqT K H a xs/\xs[i]?=some x,λi H x H'=>H'=H/\∀ xs,SqT K H a xs->xs[i]?=some x,λi H=>∃ xs,SqT K H a xs/\xs.length<=i⟩
def Itr (lo:Int) (n:Nat):It:=⟨λi _=>i < n,λi H x H'=>H'=H/\x=.int (lo+i),λi _=>n<=i⟩
theorem mD' {P:Program}{w:World}{K:PySem.W.Frag}{tg:Expr} (a it:Addr):Turn P w K tg (Itl K a) [it] it (λi h=>h.IsListIter it a i) where
 mem:=by simp
 obj:=λi h st b hb=>by
  have e:b=it:=by simpa using hb
  subst e
  obtain ⟨o,e,c,d⟩:=st
  exact ⟨o,e,λv z=>by rw [d] at z;cases z⟩
 keep:=λi h h' st k=>st.at λo e=>k it (by simp) o e
 item:=by
  intro X hP hw hK hc i pins s σ H E I hf st hg
  subst hP hw hK
  obtain ⟨xs,x,hq,hx⟩:=hg
  obtain ⟨its,rv,p,hz⟩:=I.list hq
  obtain ⟨u,hu,ru⟩:=rv.get hx
  obtain ⟨f0,f1,f2,f3,f4,f5⟩:=hf it (by simp)
  refine wpAny_pyNext_list_item st p.isList (x:=u) (by simpa using hu) λh' st' sb=>?_
  have I1:Inv X pins σ H { s with heap:=h' }:=I.turned (t':=s.toks) (λb o hb e=>(sb.2 b hb).trans e) f0 f1 f3 f4 f5
  obtain ⟨o,e,c,d⟩:=id st'
  exact ⟨u,rfl,lD' (s:={ s with heap:=h' }) e c d (by decide) ⟨x,H,I1,ru,⟨rfl,λys hy=>by rw [I.list_inj hy hq];exact hx⟩,st',λb hb=>(hf b hb).1⟩⟩
 done:=by
  intro X hP hw hK hc i pins s σ H E I hf st hg
  subst hP hw hK
  obtain ⟨xs,hq,hx⟩:=hg
  obtain ⟨its,rv,p,hz⟩:=I.list hq
  obtain ⟨f0,f1,f2,f3,f4,f5⟩:=hf it (by simp)
  have hl:=rv.length
  exact wpAny_pyNext_list_end (I.ok.hd hc) st p.isList (by simp;omega) λh' eb=>⟨rfl,I.turned (t':=s.toks) (λb o hb e=>eb b o hb e) f0 f1 f3 f4 f5⟩
 self:=λ_ _ _ _ _ st h=>wpAny_pyIter_listiter st h
theorem lE' {P:Program}{w:World}{K:PySem.W.Frag}{tg:Expr} (a it:Addr):Turn P w K tg (Itt K a) [it] it (λi h=>h.IsTupleIter it a i) where
 mem:=by simp
 obj:=λi h st b hb=>by
  have e:b=it:=by simpa using hb
  subst e
  obtain ⟨o,e,c,d⟩:=st
  exact ⟨o,e,λv z=>by rw [d] at z;cases z⟩
 keep:=λi h h' st k=>st.at λo e=>k it (by simp) o e
 item:=by
  intro X hP hw hK hc i pins s σ H E I hf st hg
  subst hP hw hK
  obtain ⟨xs,x,hq,hx⟩:=hg
  obtain ⟨its,rv,p,hz⟩:=I.tuple hq
  obtain ⟨u,hu,ru⟩:=rv.get hx
  obtain ⟨f0,f1,f2,f3,f4,f5⟩:=hf it (by simp)
  refine wpAny_pyNext_tuple_item st (show s.heap.IsTuple a its.toArray from p) (x:=u) (by simpa using hu) λh' st' sb=>?_
  have I1:Inv X pins σ H { s with heap:=h' }:=I.turned (t':=s.toks) (λb o hb e=>(sb.2 b hb).trans e) f0 f1 f3 f4 f5
  obtain ⟨o,e,c,d⟩:=id st'
  exact ⟨u,rfl,lD' (s:={ s with heap:=h' }) e c d (by decide) ⟨x,H,I1,ru,⟨rfl,λys hy=>by rw [I.tuple_inj hy hq];exact hx⟩,st',λb hb=>(hf b hb).1⟩⟩
 done:=by
  intro X hP hw hK hc i pins s σ H E I hf st hg
  subst hP hw hK
  obtain ⟨xs,hq,hx⟩:=hg
  obtain ⟨its,rv,p,hz⟩:=I.tuple hq
  obtain ⟨f0,f1,f2,f3,f4,f5⟩:=hf it (by simp)
  have hl:=rv.length
  exact wpAny_pyNext_tuple_end (I.ok.hd hc) st (show s.heap.IsTuple a its.toArray from p) (by simp;omega) λh' eb=>⟨rfl,I.turned (t':=s.toks) (λb o hb e=>eb b o hb e) f0 f1 f3 f4 f5⟩
 self:=λ_ _ _ _ _ st h=>wpAny_pyIter_tupleiter st h
theorem lF' {P:Program}{w:World}{K:PySem.W.Frag}{tg:Expr} (it:Addr) (lo:Int) (n:Nat):Turn P w K tg (Itr lo n) [it] it (λi h=>IsRangeIter h it (lo+(i:Nat)*1) ((n:Int) - (i:Nat)) 1) where
 mem:=by simp
 obj:=λi h st b hb=>by
  have e:b=it:=by simpa using hb
  subst e
  exact ⟨_,st,λv z=>by
   have z':Data.fields _=Data.cell v:=z
   cases z'⟩
 keep:=λi h h' st k=>k it (by simp) _ st
 item:=by
  intro X hP hw hK hc i pins s σ H E I hf st hg
  subst hP hw hK
  obtain ⟨f0,f1,f2,f3,f4,f5⟩:=hf it (by simp)
  have W:=Walks.range (prog:=X.prog) (w:=X.w) (I.ok.hd hc) it lo 1 n
  refine W.item i s _ _ hg st λv h' tk hv st' kk=>?_
  obtain ⟨t,rfl⟩:=hv
  have I1:Inv X pins σ H { s with heap:=h',toks:=tk }:=I.turned (λb o hb e=>kk b o (by simpa using hb) e) f0 f1 f3 f4 f5
  refine ⟨_,rfl,lD' (s:={ s with heap:=h',toks:=tk }) (n := "range_iterator") st' rfl rfl (by decide) ⟨.int (lo+i),H,I1,⟨t,?_⟩,⟨rfl,rfl⟩,st',λb hb=>(hf b hb).1⟩⟩
  rw [Int.mul_one]
 done:=by
  intro X hP hw hK hc i pins s σ H E I hf st hg
  subst hP hw hK
  obtain ⟨f0,f1,f2,f3,f4,f5⟩:=hf it (by simp)
  exact wpAny_pyNext_range_end (I.ok.hd hc) st (by have:n<=i:=hg;omega) λh' eb=>⟨rfl,I.turned (t':=s.toks) (λb o hb e=>eb b o hb e) f0 f1 f3 f4 f5⟩
 self:=λ_ _ _ _ _ st h=>wpAny_pyIter_rangeiter st h
end L2
namespace L2
open PySem PySem.Spec PyProof.Rows
section
variable {X:Cx}{tg:Expr}
theorem i8' {pins:List (Addr×Obj)}{σ:St}{H:Hp}{s:Shared}{R:It->Hp->Prop}{E:Value->Shared->Prop}{lo hi:Int}{t u v:Tok}{tk:Nat} (I:Inv X pins σ H s) (h1:-(2 ^ 62)<=lo) (h2:lo < 2 ^ 62) (h3:-(2 ^ 62)<=hi) (h4:hi < 2 ^ 62)
  (q:R (Itr lo (hi - lo).toNat) H):wpAny (model X.prog X.w) X.A (pyIter (.ref s.heap.objs.size)) (PIE X pins σ tg R) E { s with heap:=s.heap.push { cls:=.type "range", data:=.fields #[.int lo t,.int hi u,.int 1 v] },toks:=tk }:=by
 refine wpAny_pyIter_range (IsRange.new ..) (small_one h1 h2 h3 h4) ?_
 have I1:Inv X pins σ H { s with heap:=s.heap.push { cls:=.type "range", data:=.fields #[.int lo t,.int hi u,.int 1 v] },toks:=tk }:=I.kept λb o e=>Heap.get?_push_of_some _ e
 refine ⟨(s.heap.push { cls:=.type "range", data:=.fields #[.int lo t,.int hi u,.int 1 v] }).objs.size,[(s.heap.push { cls:=.type "range", data:=.fields #[.int lo t,.int hi u,.int 1 v] }).objs.size],_,_,H,rfl,
  I1.kept (t':=tk) λb o e=>Heap.get?_push_of_some _ e,lF' _ lo (hi - lo).toNat,?_,λb hb=>?_,q⟩
 ·have e1:lo+((0:Nat):Int)*1=lo:=by simp
  have e2:(((hi - lo).toNat:Nat):Int) - ((0:Nat):Int)=Builtin.Range.rangeSize lo hi 1:=by rw [rangeSize_one];split<;>omega
  show IsRangeIter _ _ (lo+((0:Nat):Int)*1) ((((hi - lo).toNat:Nat):Int) - ((0:Nat):Int)) 1
  rw [e1,e2]
  exact Heap.get?_push_size _ rfl
 ·have e:b=(s.heap.push { cls:=.type "range", data:=.fields #[.int lo t,.int hi u,.int 1 v] }).objs.size:=by simpa using hb
  subst e
  exact I1.fpOk (Nat.le_refl _) (I1.hok.fresh (Nat.le_refl _))
def iRng1 (ta:TA):TI:=λσ H R=>ta σ H λvs H1=>∃ j:Int,vs=[.int j]/\-(2 ^ 62)<=j/\j < 2 ^ 62/\R (Itr 0 j.toNat) H1
def iRng2 (ta:TA):TI:=λσ H R=>ta σ H λvs H1=>∃ i j:Int,vs=[.int i,.int j]/\(-(2 ^ 62)<=i/\i < 2 ^ 62/\-(2 ^ 62)<=j/\j < 2 ^ 62)/\R (Itr i (j - i).toNat) H1
theorem mE' {a:Expr}{ta:TA}{p pos:Pos} (hg:Gl X "range") (hm:X.mg "range"=none) (ha:PA X [a] ta) (hs:starEach [a] X.env=[(false,eval a X.env)]:=by rfl):PI X tg (.Call (.Name "range" p) [a] [] pos) (iRng1 ta):=by
 intro pins s σ H R I h
 refine Call_ (cY' I hg hm boot_range (PyProof.Rows.callWith_type1 (thn (ha pos pins s σ H _ I h) λus s1 ⟨vs,H1,I1,r1,q1⟩=>?_) hs rfl))
 obtain ⟨j,e,q1,q2,q⟩:=q1
 subst e
 cases r1 with
 | cons r rr =>
  cases rr
  obtain ⟨t,rfl⟩:=r
  exact call_range_1 (i8' I1 (by omega) (by omega) q1 q2 (by simpa using q))
theorem mF' {a b:Expr}{ta:TA}{p pos:Pos} (hg:Gl X "range") (hm:X.mg "range"=none) (ha:PA X [a,b] ta) (hs:starEach [a,b] X.env=[(false,eval a X.env),(false,eval b X.env)]:=by rfl) (hs2:starEach [b] X.env=[(false,eval b X.env)]:=by rfl) :
  PI X tg (.Call (.Name "range" p) [a,b] [] pos) (iRng2 ta):=by
 intro pins s σ H R I h
 refine Call_ (cY' I hg hm boot_range (PyProof.Rows.callWith_type1 (thn (ha pos pins s σ H _ I h) λus s1 ⟨vs,H1,I1,r1,q1⟩=>?_) (by rw [hs,hs2]) (by rw [hs2];rfl)))
 obtain ⟨i,j,e,⟨q1,q2,q3,q4⟩,q⟩:=q1
 subst e
 cases r1 with
 | cons r rr =>
  cases rr with
  | cons r' rr =>
   cases rr
   obtain ⟨t,rfl⟩:=r
   obtain ⟨t',rfl⟩:=r'
   exact call_range_2 (i8' I1 q1 q2 q3 q4 q)
def tFor (wi:TI) (g:TG) (tb:TS):TS:=λD σ H=>wi σ H λJ H1=>∃ W:Nat->Nat->St->Hp->Prop,(∃ m,W 0 m σ H1)/\∀ i m σ H,W i m σ H →
 (J.stop i H/\D.nx σ H)\/(J.go i H/\∃ N:St->Hp->Prop,(∀ σ' H',N σ' H'->∃ m',m' < m/\W (i+1) m' σ' H')/\∀ x H',J.yld i H x H'->g x σ H' λσ2 H2=>tb { D with nx:=N,ct:=N,bk:=D.nx } σ2 H2)
def pinsAt (fp:List Addr) (h:Heap):List (Addr×Obj):=fp.filterMap λb=>(h.get? b).map λo=>(b,o)
theorem dQ' {fp:List Addr}{h:Heap}{b:Addr}{o:Obj} (hb:b∈fp) (e:h.get? b=some o):(b,o)∈pinsAt fp h:=List.mem_filterMap.mpr ⟨b,hb,by rw [e];rfl⟩
theorem mG' {fp:List Addr}{h:Heap}{p:Addr×Obj} (hp:p∈pinsAt fp h):p.1∈fp/\h.get? p.1=some p.2:=by
 obtain ⟨b,hb,e⟩:=List.mem_filterMap.mp hp
 cases q:h.get? b with
 | none=>rw [q] at e;cases e
 | some o =>
  rw [q] at e
  have e':(b,o)=p:=Option.some.inj e
  subst e'
  exact ⟨hb,q⟩
theorem Inv.pinned {pins:List (Addr×Obj)}{σ:St}{H:Hp}{s:Shared}{fp:List Addr} (I:Inv X pins σ H s) (hf:∀ b∈fp,FpOk X pins H b) (ho:∀ b∈fp,∃ o,s.heap.get? b=some o/\∀ v,o.data≠.cell v):Inv X (pins++pinsAt fp s.heap) σ H s :=
 I.pins_of λp hp=>(List.mem_append.mp hp).elim (λz=>I.pin p (List.mem_append_right _ z)) λz=>by
  obtain ⟨hb,e⟩:=mG' z
  obtain ⟨f0,f1,f2,_⟩:=hf p.1 hb
  obtain ⟨o,e',d⟩:=ho p.1 hb
  rw [e] at e';cases e'
  exact ⟨e,f0,f1,f2,d⟩
theorem Inv.unpinned {pins pl:List (Addr×Obj)}{σ:St}{H:Hp}{s:Shared} (I:Inv X (pins++pl) σ H s):Inv X pins σ H s:=I.pins_of λp hp=>I.pin p (List.mem_append_right _ (List.mem_append_left _ hp))
theorem qQ' {iter:Expr}{body:List Stmt}{wi:TI}{g:TG}{tb:TS}{pos:Pos} (hp:PassesOwn (model X.prog X.w) X.A X.env X.xe) (hc:X.calm=true) (hi:PI X tg iter wi) (hg:PG X tg g) (hb:PSs X body tb)
  (hs:∀ x,foldedSetIterable iter X.env x=pure x:=by intro _;rfl):PS X (.For tg iter body [] pos) (tFor wi g tb):=by
 intro pins s σ H D I h
 refine wpAny_For (thn (hi pins s σ H _ I h) λv s1 h1=>thn h1 λitv s2 h2=>?_) hs
 obtain ⟨it,fp,tn,J,H2,e,I2,T,st2,f2,W,⟨m0,w0⟩,turn⟩:=h2
 subst e
 -- what stays true of the iterator's objects through the loop
 have stat:∀ {H':Hp},(∀ b∈fp,H' b=none)->∀ b∈fp,FpOk X pins H' b:=λhn b hb=>⟨hn b hb,(f2 b hb).2⟩
 refine codeAny_forLoop_any (λn s'=>∃ i σ' H',Inv X pins σ' H' s'/\tn i s'.heap/\(∀ b∈fp,H' b=none)/\W i n σ' H') ?_ m0 ⟨0,σ,H2,I2,st2,λb hb=>(f2 b hb).1,w0⟩
 rintro n s3 ⟨i,σ3,H3,I3,st3,fr3,w3⟩
 rcases turn i n σ3 H3 w3 with ⟨stop,qn⟩ | ⟨go,N,hN,step⟩
 ·refine wpAny_passesOwn hp (thn (T.done X rfl rfl rfl hc i pins s3 σ3 H3 X.xe I3 (stat fr3) st3 stop) λr s4 ⟨hr,I4⟩=>?_)
  subst hr
  exact wpAny_execs_nil ⟨σ3,H3,I4,qn⟩
 ·refine wpAny_passesOwn hp (thn (T.item X rfl rfl rfl hc i pins s3 σ3 H3 X.xe I3 (stat fr3) st3 go) λr s4 ⟨u,hr,h4⟩=>?_)
  subst hr
  refine wpAny_passesOwn hp (thn h4 λ_ s5 ⟨x,H5,I5,r5,y5,st5,fr5⟩=>?_)
  have I5':=I5.pinned (stat fr5) (T.obj _ _ st5)
  refine wpAny_passesOwn hp (thn (hg _ s5 σ3 H5 x u _ I5' r5 (step x H5 y5)) λ_ s6 ⟨σ6,H6,I6,q6⟩=>?_)
  refine wpAny_passesOwn hp (thn (hb _ s6 σ6 H6 _ I6 q6) λf s7 q7=>?_)
  have again:∀ {σ7:St}{H7:Hp},Inv X (pins++pinsAt fp s5.heap) σ7 H7 s7->N σ7 H7->∃ m,m < n/\∃ i σ' H',Inv X pins σ' H' s7/\tn i s7.heap/\(∀ b∈fp,H' b=none)/\W i m σ' H':=λ{σ7 H7} I7 n7=>by
   obtain ⟨m',hm,w7⟩:=hN σ7 H7 n7
   refine ⟨m',hm,i+1,σ7,H7,I7.unpinned,T.keep _ _ _ st5 λb hb o e=>(I7.pin (b,o) (List.mem_append_right _ (List.mem_append_right _ (dQ' hb e)))).1,λb hb=>?_,w7⟩
   obtain ⟨o,e,d⟩:=T.obj _ _ st5 b hb
   exact (I7.pin (b,o) (List.mem_append_right _ (List.mem_append_right _ (dQ' hb e)))).2.1
  cases f with
  | next=>obtain ⟨σ7,H7,I7,n7⟩:=q7;exact again I7 n7
  | cont=>obtain ⟨σ7,H7,I7,n7⟩:=q7;exact again I7 n7
  | brk=>obtain ⟨σ7,H7,I7,q7⟩:=q7;exact ⟨σ7,H7,I7.unpinned,q7⟩
  | ret v=>obtain ⟨x7,σ7,H7,I7,r7,q7⟩:=q7;exact ⟨x7,σ7,H7,I7.unpinned,r7,q7⟩
end
end L2
namespace L2
open PySem PySem.Spec PyProof.Rows
abbrev R2:=V->V->Hp->VK->Prop
def OpR (X:Cx) (f:Value->Value->Sem Value) (r:R2):Prop :=
 ∀ (pins:List (Addr×Obj)) (s:Shared) (σ:St) (H:Hp) (x y:V) (v u:Value) (Q:VK),Inv X pins σ H s->RelV x v->RelV y u->r x y H Q →
  wpAny (model X.prog X.w) X.A (f v u) (EP X pins σ Q) X.xe s
def UnR (X:Cx) (f:Value->Sem Value) (r:V->Hp->VK->Prop):Prop :=
 ∀ (pins:List (Addr×Obj)) (s:Shared) (σ:St) (H:Hp) (x:V) (v:Value) (Q:VK),Inv X pins σ H s->RelV x v->r x H Q →
  wpAny (model X.prog X.w) X.A (f v) (EP X pins σ Q) X.xe s
def CallR (X:Cx) (f:Value) (r:List V->Hp->VK->Prop):Prop :=
 ∀ (pins:List (Addr×Obj)) (s:Shared) (σ:St) (H:Hp) (xs:List V) (us:List Value) (Q:VK),Inv X pins σ H s->Vals xs us->r xs H Q →
  wpAny (model X.prog X.w) X.A (call f us) (EP X pins σ Q) X.xe s
def tOp (r:R2) (ta tb:TE):TE:=λσ H Q=>ta σ H λx H1=>tb σ H1 λy H2=>r x y H2 Q
def tUn (r:V->Hp->VK->Prop) (ta:TE):TE:=λσ H Q=>ta σ H λx H1=>r x H1 Q
def rI (C:Int->Int->Prop) (g:Int->Int->V):R2:=λx y H Q=>∃ i j,x=.int i/\y=.int j/\C i j/\Q (g i j) H
def rI0 (g:Int->Int->V):R2:=λx y H Q=>∃ i j,x=.int i/\y=.int j/\Q (g i j) H
def rU (g:Int->V):V->Hp->VK->Prop:=λx H Q=>∃ i,x=.int i/\Q (g i) H
section
variable {X:Cx}{a b c:Expr}{ta tb tc:TE}{pos:Pos}
theorem binT (ha:PE X a ta) (hb:PE X b tb){pins:List (Addr×Obj)}{s:Shared}{σ:St}{H:Hp}{R:V->V->Hp->Prop} (I:Inv X pins σ H s)
  (h:ta σ H λx H1=>tb σ H1 λy H2=>R x y H2){Q:Value->Shared->Prop}{f:Value->Value->Sem Value}
  (hf:∀ v u s2 x y H2,Inv X pins σ H2 s2->RelV x v->RelV y u->R x y H2->wpAny (model X.prog X.w) X.A (f v u) Q X.xe s2) :
  wpAny (model X.prog X.w) X.A (eval a X.env) (λv s₁=>wpAny (model X.prog X.w) X.A (eval b X.env) (λu s₂=>wpAny (model X.prog X.w) X.A (f v u) Q X.xe s₂) X.xe s₁) X.xe s:=by
 refine thn (ha pins s σ H _ I h) λv s1 ⟨x,H1,I1,r1,q1⟩=>?_
 refine thn (hb pins s1 σ H1 _ I1 q1) λu s2 ⟨y,H2,I2,r2,q2⟩=>?_
 exact hf v u s2 x y H2 I2 r1 r2 q2
theorem pc' {op:Operator}{r:R2} (ho:OpR X (binaryOp op) r) (ha:PE X a ta) (hb:PE X b tb):PE X (.BinOp a op b pos) (tOp r ta tb):=by
 intro pins s σ H Q I h
 exact wpAny_BinOp (binT ha hb I h λv u s2 x y H2 I2 rx ry q=>ho pins s2 σ H2 x y v u Q I2 rx ry q)
theorem r3' {op:UnaryOp}{r:V->Hp->VK->Prop} (ho:UnR X (unaryOp op) r) (ha:PE X a ta):PE X (.UnaryOp op a pos) (tUn r ta):=by
 intro pins s σ H Q I h
 exact UnaryOp_ (thn (ha pins s σ H _ I h) λv s1 ⟨x,H1,I1,r1,q1⟩=>ho pins s1 σ H1 x v Q I1 r1 q1)
theorem opI {f:Value->Value->Sem Value}{C:Int->Int->Prop}{g:Int->Int->Int}
  (rule:∀ (i j:Int) (t u:Tok) (s:Shared) (Q:Value->Shared->Prop) (E:Value->Shared->Prop),C i j->Q (.int (g i j) s.toks) { s with toks:=s.toks+1 }->wpAny (model X.prog X.w) X.A (f (.int i t) (.int j u)) Q E s) :
  OpR X f (rI C λi j=>.int (g i j)):=by
 intro pins s σ H x y v u Q I rx ry h
 obtain ⟨i,j,rfl,rfl,hc,q⟩:=h
 obtain ⟨t,rfl⟩:=rx
 obtain ⟨t',rfl⟩:=ry
 exact rule i j t t' s _ _ hc ⟨.int (g i j),H,I.tok _,⟨_,rfl⟩,q⟩
theorem opI0 {f:Value->Value->Sem Value}{g:Int->Int->Int}
  (rule:∀ (i j:Int) (t u:Tok) (s:Shared) (Q:Value->Shared->Prop) (E:Value->Shared->Prop),Q (.int (g i j) s.toks) { s with toks:=s.toks+1 }->wpAny (model X.prog X.w) X.A (f (.int i t) (.int j u)) Q E s) :
  OpR X f (rI0 λi j=>.int (g i j)):=by
 intro pins s σ H x y v u Q I rx ry h
 obtain ⟨i,j,rfl,rfl,q⟩:=h
 obtain ⟨t,rfl⟩:=rx
 obtain ⟨t',rfl⟩:=ry
 exact rule i j t t' s _ _ ⟨.int (g i j),H,I.tok _,⟨_,rfl⟩,q⟩
theorem opB0 {f:Value->Value->Sem Value}{g:Int->Int->Bool}
  (rule:∀ (i j:Int) (t u:Tok) (s:Shared) (Q:Value->Shared->Prop) (E:Value->Shared->Prop),Q (.bool (g i j)) s->wpAny (model X.prog X.w) X.A (f (.int i t) (.int j u)) Q E s) :
  OpR X f (rI0 λi j=>.bl (g i j)):=by
 intro pins s σ H x y v u Q I rx ry h
 obtain ⟨i,j,rfl,rfl,q⟩:=h
 obtain ⟨t,rfl⟩:=rx
 obtain ⟨t',rfl⟩:=ry
 exact rule i j t t' s _ _ ⟨.bl (g i j),H,I,rfl,q⟩
def CPow (i j:Int):Prop:=0<=j/\j<=1000000/\i.natAbs < 2 ^ 64
def CMul (i j:Int):Prop:=(-(2 ^ 64) < i/\i < 2 ^ 64)\/(-(2 ^ 64) < j/\j < 2 ^ 64)
theorem CMul.ok {i j:Int} (h:CMul i j):IntMulOk i j:=by
 rcases h with ⟨h1,h2⟩ | ⟨h1,h2⟩
 ·exact .of_left (intBits_le_64 h1 h2)
 ·exact .of_right (intBits_le_64 h1 h2)
theorem qR':OpR X (binaryOp .Add) (rI0 λi j=>.int (i+j)):=opI0 λ_ _ _ _ _ _ _ q=>add_int q
theorem qS':OpR X (binaryOp .Sub) (rI0 λi j=>.int (i - j)):=opI0 λ_ _ _ _ _ _ _ q=>sub_int q
theorem qT':OpR X (binaryOp .Mult) (rI CMul λi j=>.int (i*j)):=opI λ_ _ _ _ _ _ _ hc q=>mul_int q hc.ok
theorem qU':OpR X (binaryOp .Mod) (rI (λ_ j=>0 < j) λi j=>.int (i % j)):=opI λi j _ _ _ _ _ hc q=>by
 have h1:(0:Int) < j:=hc
 exact mod_int' (by omega) (by rw [Int.fmod_eq_emod_of_nonneg i (by omega)];exact q)
theorem qV':OpR X (binaryOp .Pow) (rI CPow λi j=>.int (i ^ j.toNat)):=opI λ_ _ _ _ _ _ _ hc q=>pow_int_small hc.1 hc.2.1 hc.2.2 q
theorem unI {f:Value->Sem Value}{g:Int->Int}
  (rule:∀ (i:Int) (t:Tok) (s:Shared) (Q:Value->Shared->Prop) (E:Value->Shared->Prop),Q (.int (g i) s.toks) { s with toks:=s.toks+1 }->wpAny (model X.prog X.w) X.A (f (.int i t)) Q E s) :
  UnR X f (rU λi=>.int (g i)):=by
 intro pins s σ H x v Q I rx h
 obtain ⟨i,rfl,q⟩:=h
 obtain ⟨t,rfl⟩:=rx
 exact rule i t s _ _ ⟨.int (g i),H,I.tok _,⟨_,rfl⟩,q⟩
theorem qW':UnR X (unaryOp .USub) (rU λi=>.int (-i)):=unI λ_ _ _ _ _ q=>neg_int q
end
section
variable {X:Cx}{a b c:Expr}{ta tb tc:TE}{pos:Pos}
theorem mH' {pins:List (Addr×Obj)}{σ:St}{H:Hp}{s:Shared}{Q:VK}{k k':Bool} (I:Inv X pins σ H s) (q:Q (.bl k) H) (e:k=k'):EP X pins σ Q (.bool k') s:=by
 subst e
 exact ⟨.bl k,H,I,rfl,q⟩
theorem gz':OpR X (compareOp .Lt) (rI0 λi j=>.bl (decide (i < j))):=opB0 λ_ _ _ _ _ _ _ q=>lt_int q
theorem gA':OpR X (compareOp .LtE) (rI0 λi j=>.bl (decide (i<=j))):=opB0 λ_ _ _ _ _ _ _ q=>le_int q
theorem r4':OpR X (compareOp .Gt) (rI0 λi j=>.bl (decide (j < i))):=opB0 λ_ _ _ _ _ _ _ q=>gt_int q
theorem r5':OpR X (compareOp .GtE) (rI0 λi j=>.bl (decide (j<=i))):=opB0 λ_ _ _ _ _ _ _ q=>ge_int q
theorem qX':OpR X (compareOp .Is) (λx y H Q=>y=.non/\Q (.bl (decide (x=.non))) H):=by
 intro pins s σ H x y v u Q I rx ry h
 obtain ⟨rfl,q⟩:=h
 cases ry
 refine is_none_gen (mH' I q ?_)
 cases x<;>first
  | (cases rx;rfl)
  | (obtain ⟨t,rfl⟩:=rx;rfl)
theorem pz':OpR X (compareOp .IsNot) (λx y H Q=>y=.non/\Q (.bl (!decide (x=.non))) H):=by
 intro pins s σ H x y v u Q I rx ry h
 obtain ⟨rfl,q⟩:=h
 cases ry
 refine isnot_none_gen (mH' I q ?_)
 cases x<;>first
  | (cases rx;rfl)
  | (obtain ⟨t,rfl⟩:=rx;rfl)
theorem OpR.or {f:Value->Value->Sem Value}{r r':R2} (h:OpR X f r) (h':OpR X f r'):OpR X f (λx y H Q=>r x y H Q\/r' x y H Q):=by
 intro pins s σ H x y v u Q I rx ry q
 rcases q with q | q
 ·exact h pins s σ H x y v u Q I rx ry q
 ·exact h' pins s σ H x y v u Q I rx ry q
theorem nomark (b:Expr){op:CmpOp} (h:op≠.In:=by decide) (h2:op≠.NotIn:=by decide):behindInMarks op b=false:=by
 have e1:(op == CmpOp.In)=false:=by cases op<;>first | rfl | exact absurd rfl h
 have e2:(op == CmpOp.NotIn)=false:=by cases op<;>first | rfl | exact absurd rfl h2
 cases b<;>simp [behindInMarks,e1,e2]
theorem pA' {op:CmpOp}{r:R2} (ho:OpR X (compareOp op) r) (ha:PE X a ta) (hb:PE X b tb) (hm:behindInMarks op b=false):PE X (.Compare a [op] [b] pos) (tOp r ta tb):=by
 intro pins s σ H Q I h
 exact wpAny_Compare1 (binT ha hb I h λv u s2 x y H2 I2 rx ry q=>ho pins s2 σ H2 x y v u Q I2 rx ry q) hm
def tTest (t:TE):TT:=λσ H Q=>t σ H λx H'=>∃ k,x=.bl k/\Q k H'
theorem kZ' {op:CmpOp}{r:R2} (ho:OpR X (compareOp op) r) (ha:PE X a ta) (hb:PE X b tb) (hm:behindInMarks op b=false):PT X (.Compare a [op] [b] pos) (tTest (tOp r ta tb)):=by
 intro pins s σ H Q I h
 refine wpAny_isTrue_Compare1 (thn (ha pins s σ H _ I h) λv s1 ⟨x,H1,I1,r1,q1⟩=>thn (hb pins s1 σ H1 _ I1 q1) λu s2 ⟨y,H2,I2,r2,q2⟩ =>
  thn (ho pins s2 σ H2 x y v u _ I2 r1 r2 q2) λc s3 ⟨z,H3,I3,r3,k,e,q3⟩=>?_) hm
 subst e
 cases r3
 exact wpAny_truthy_bool ⟨H3,I3,q3⟩
def tChain (r r':R2) (ta tb tc:TE):TE:=λσ H Q=>ta σ H λx H1=>tb σ H1 λy H2=>r x y H2 λz H3=>∃ k,z=.bl k ∧
 (if k=true then tc σ H3 λw' H4=>r' y w' H4 Q else Q (.bl false) H3)
theorem oj' {op op':CmpOp}{r r':R2} (ho:OpR X (compareOp op) r) (ho':OpR X (compareOp op') r') (ha:PE X a ta) (hb:PE X b tb) (hc:PE X c tc)
  (hm:lastMarks [op,op'] [b,c]=false:=by with_unfolding_all rfl):PE X (.Compare a [op,op'] [b,c] pos) (tChain r r' ta tb tc):=by
 intro pins s σ H Q I h
 refine Compare_chain (thn (ha pins s σ H _ I h) λv s1 ⟨x,H1,I1,r1,q1⟩=>chain_link (thn (hb pins s1 σ H1 _ I1 q1) λu s2 ⟨y,H2,I2,r2,q2⟩ =>
  thn (ho pins s2 σ H2 x y v u _ I2 r1 r2 q2) λd s3 ⟨z,H3,I3,r3,k,e,q3⟩=>?_)) hm
 subst e
 cases r3
 refine wpAny_truthy_bool ?_
 cases k with
 | false=>exact ite_ff ⟨.bl false,H3,I3,rfl,q3⟩
 | true=>exact ite_tt (chain_last (thn (hc pins s3 σ H3 _ I3 q3) λw' s4 ⟨z',H4,I4,r4,q4⟩=>ho' pins s4 σ H4 y z' u w' Q I4 r2 r4 q4))
theorem ok' {op op':CmpOp}{r r':R2} (ho:OpR X (compareOp op) r) (ho':OpR X (compareOp op') r') (ha:PE X a ta) (hb:PE X b tb) (hc:PE X c tc)
  (hm:lastMarks [op,op'] [b,c]=false:=by with_unfolding_all rfl):PT X (.Compare a [op,op'] [b,c] pos) (tTest (tChain r r' ta tb tc)):=by
 intro pins s σ H Q I h
 refine isTrue_chain (thn (ha pins s σ H _ I h) λv s1 ⟨x,H1,I1,r1,q1⟩=>test_link (thn (hb pins s1 σ H1 _ I1 q1) λu s2 ⟨y,H2,I2,r2,q2⟩ =>
  thn (ho pins s2 σ H2 x y v u _ I2 r1 r2 q2) λd s3 ⟨z,H3,I3,r3,k,e,q3⟩=>?_)) hm
 subst e
 cases r3
 refine wpAny_truthy_bool ?_
 cases k with
 | false =>
  obtain ⟨k',e',q'⟩:=q3
  cases e'
  exact ite_ff ⟨H3,I3,q'⟩
 | true =>
  refine ite_tt (test_last (thn (hc pins s3 σ H3 _ I3 q3) λw' s4 ⟨z',H4,I4,r4,q4⟩=>thn (ho' pins s4 σ H4 y z' u w' _ I4 r2 r4 q4) λd' s5 ⟨z2,H5,I5,r5,k2,e2,q5⟩=>?_))
  subst e2
  cases r5
  exact wpAny_truthy_bool ⟨H5,I5,q5⟩
theorem line63:(sizeLine:Nat) < 2 ^ 63:=by rw [sizeLine_eq];decide
theorem lG':OpR X (binaryOp .Add) (λx y H Q=>∃ i j,x=.str i/\y=.str j/\i.length+j.length<=sizeLine/\Q (.str (i++j)) H):=by
 intro pins s σ H x y v u Q I rx ry h
 obtain ⟨i,j,rfl,rfl,hz,q⟩:=h
 obtain ⟨t,rfl⟩:=rx
 obtain ⟨t',rfl⟩:=ry
 exact add_str (λt' tk=>⟨.str (i++j),H,I.tok _,⟨_,rfl⟩,q⟩) hz
theorem vals1 {x:V}{us:List Value} (r:Vals [x] us):∃ u,us=[u]/\RelV x u:=by
 cases r with
 | cons r1 r2=>cases r2;exact ⟨_,rfl,r1⟩
theorem vals2 {x y:V}{us:List Value} (r:Vals [x,y] us):∃ u w',us=[u,w']/\RelV x u/\RelV y w':=by
 cases r with
 | cons r1 r2 =>
  cases r2 with
  | cons r3 r4=>cases r4;exact ⟨_,_,rfl,r1,r3⟩
theorem mI' (hc:X.calm=true):CallR X (.builtin "max") (λxs H Q=>∃ i j,xs=[.int i,.int j]/\Q (.int (if j > i then j else i)) H):=by
 intro pins s σ H xs us Q I r h
 obtain ⟨i,j,rfl,q⟩:=h
 obtain ⟨u,w',rfl,⟨t,rfl⟩,⟨t',rfl⟩⟩:=vals2 r
 refine max_two_ints (I.ok.hd hc) λh' tk k=>⟨_,H,I.kept k,?_,q⟩
 by_cases hj:j > i
 ·rw [if_pos hj,if_pos hj];exact ⟨_,rfl⟩
 ·rw [if_neg hj,if_neg hj];exact ⟨_,rfl⟩
theorem mJ' (hc:X.calm=true):CallR X (.builtin "min") (λxs H Q=>∃ i j,xs=[.int i,.int j]/\Q (.int (if j < i then j else i)) H):=by
 intro pins s σ H xs us Q I r h
 obtain ⟨i,j,rfl,q⟩:=h
 obtain ⟨u,w',rfl,⟨t,rfl⟩,⟨t',rfl⟩⟩:=vals2 r
 refine min_two_ints (I.ok.hd hc) λh' tk k=>⟨_,H,I.kept k,?_,q⟩
 by_cases hj:j < i
 ·rw [if_pos hj,if_pos hj];exact ⟨_,rfl⟩
 ·rw [if_neg hj,if_neg hj];exact ⟨_,rfl⟩
end
end L2
namespace L2
open PySem PySem.Spec PyProof.Rows
structure ObjM (h:Heap) (x dx C:Addr) (mA:Str->Option Value):Prop where
 obj:h.get? x=some (PySem.W.instObj C dx)
 ns:h.Ns1 dx mA
 ne:dx≠x
section
variable {prog:Program}{w:World}{A:Around}{E:Value->Shared->Prop}{s:Shared}{K:PySem.W.Frag}{x dx C f:Addr}{mA:Str->Option Value}{name:Str}{v:Value}
end
theorem RelO.some_of {v:V}{o:Option Value} (r:RelO (some v) o):∃ u,o=some u/\RelV v u:=by
 cases o with
 | none=>exact (show False from r).elim
 | some u=>exact ⟨u,rfl,r⟩
section
variable {P:Program}{w:World}{H H':Hp}{h h':Heap}{a C dx:Addr}{fs fs':List (Str×V)}
end
structure Cls (K:PySem.W.Frag) (C:Addr):Prop where
 pg:PySem.W.plainGet K C Str.empty=true
 hd:PySem.W.hasDictIn K C=true
 po:PySem.W.plainOver K C=true
 sa:PySem.W.findIn K (.ref C) "__setattr__"=some (some (.builtin "object.__setattr__"))
structure Con (K:PySem.W.Frag) (C:Addr) (f:Str) (v:V) (u:Value):Prop where
 at_:PySem.W.findIn K (.ref C) f=some (some u)
 rel:RelV v u
 get:PySem.W.specialIn K u "__get__"=some none
 cp:PySem.W.copiedNames.contains f=false
structure Meth (K:PySem.W.Frag) (C:Addr) (m:Str) (f:Addr):Prop where
 at_:PySem.W.findIn K (.ref C) m=some (some (.ref f))
 fn:PySem.W.isFn K (.ref f)=true
 kp:PySem.W.keepIn K (.ref f)=true
section
variable {X:Cx}{pins:List (Addr×Obj)}{σ:St}{H:Hp}{s:Shared}{a C dx:Addr}{fs:List (Str×V)}{f:Str}{v:V}{A:Around}{E:Value->Shared->Prop}
end
section
variable {X:Cx}{o e value:Expr}{f:Str}{pos pos' tpos:Pos}{ta tv:TE}
end
section
variable {X:Cx}{pins:List (Addr×Obj)}{σ:St}{H:Hp}{s:Shared}{A:Around}{E:Value->Shared->Prop}{Q:Value->Shared->Prop}{c:Value}{b:Bool}
inductive TyOf (K:PySem.W.Frag) (H:Hp):V->Value->Prop where
 | non:TyOf K H .non (.type "NoneType")
 | bl (x:Bool):TyOf K H (.bl x) (.type "bool")
 | int (i:Int):TyOf K H (.int i) (.type "int")
 | str (x:Str):TyOf K H (.str x) (.type "str")
 | flt (x:UInt64):TyOf K H (.flt x) (.type "float")
 | lst {a:Addr}{xs:List V} (e:H a=some (.lst xs)):TyOf K H (.ref a) (.type "list")
 | frz {a:Addr}{o:Obj}{xs:List V} (e:H a=some (.frz o (.lst xs))):TyOf K H (.ref a) (.type "list")
 | tup {a:Addr}{xs:List V} (e:H a=some (.tup xs)):TyOf K H (.ref a) (.type "tuple")
 | dK {a:Addr}{kvs:List (Key×V)} (e:H a=some (.dK kvs)):TyOf K H (.ref a) (.type "dict")
 | dT {a:Addr}{kvs:List (List Key×V)} (e:H a=some (.dT kvs)):TyOf K H (.ref a) (.type "dict")
 | ins {a C dx:Addr}{fs:List (Str×V)} (e:H a=some (.ins C dx fs)) (cl:Cls K C) (ha:PySem.W.findIn K (.ref C) "__class__"=some (some (.builtin "object.__class__")))
   (hn:PySem.W.specialIn K (.builtin "object.__class__") "__get__"=some (some (.builtin "getset_descriptor.__get__"))) (htk:PySem.W.takesIn K (.builtin "object.__class__")=some true)
   (hm:PySem.W.mroIn K C (.type "object")=some true):TyOf K H (.ref a) (.ref C)
end
end L2
namespace L2
open PySem PySem.Spec PyProof.Rows
structure Room (k:Nat) (A:Around):Prop where
 hd:A.handled=none
 dp:A.depth+3*k+5 < recursionLimit
 un:A.units+16*k+200 < cLine
 gd:A.guards=some []
theorem Room.mono {j k:Nat}{A:Around} (r:Room k A) (h:j<=k):Room j A:=⟨r.hd,by have:=r.dp;omega,by have:=r.un;omega,r.gd⟩
theorem Room.deeper {k:Nat}{A:Around} (r:Room (k+1) A) (env:Env):Room k (A.deeper env) :=
 ⟨r.hd,by have:=r.dp;show A.depth+1+3*k+5 < _;omega,by have:=r.un;show A.units+3+16*k+200 < _;omega,r.gd⟩
theorem Room.depth {k:Nat}{A:Around} (r:Room k A):A.depth < recursionLimit:=by have:=r.dp;omega
theorem Room.units {k:Nat}{A:Around} (r:Room k A):A.units+64 < cLine:=by have:=r.un;omega
def tNil:TA:=λ_ H Q=>Q [] H
def tCons (ta:TE) (tr:TA):TA:=λσ H Q=>ta σ H λx H1=>tr σ H1 λxs H2=>Q (x::xs) H2
section
variable {X:Cx}{e:Expr}{es:List Expr}{te:TE}{t:TA}{pos:Pos}
theorem gB':PA X [] tNil:=λ_ _ _ _ H Q I h=>Calls.spliced_nil ⟨[],H,I,.nil,h⟩
theorem d1' (ha:PE X e te) (hr:PA X es t) (hs:starEach (e::es) X.env=(false,eval e X.env)::starEach es X.env:=by rfl):PA X (e::es) (tCons te t):=by
 intro pos pins s σ H Q I h
 rw [hs]
 show wpAny _ _ (spliced ((false,eval e X.env)::backTo pos (starEach es X.env))) _ _ s
 refine Calls.spliced_cons (thn (ha pins s σ H _ I h) λu s1 ⟨x,H1,I1,r1,q1⟩=>?_)
 exact thn (hr pos pins s1 σ H1 _ I1 q1) λus s2 ⟨xs,H2,I2,r2,q2⟩=>⟨x::xs,H2,I2,.cons r1 r2,q2⟩
def tTup (t:TA):TE:=λσ H Q=>t σ H λxs H1=>xs.length<=sizeLine/\∀ p,H1 p=none->Q (.ref p) (upd H1 p (.tup xs))
def tLst (t:TA):TE:=λσ H Q=>t σ H λxs H1=>xs.length<=sizeLine/\∀ p,H1 p=none->Q (.ref p) (upd H1 p (.lst xs))
theorem qY' {x1} (h:PA X es t):PE X (.Tuple es x1 pos) (tTup t):=by
 intro pins s σ H Q I hq
 refine wpAny_Tuple_spliced (thn (h pos pins s σ H _ I hq) λus s1 ⟨xs,H1,I1,r,z,q⟩=>⟨by rw [← r.length];exact z,?_⟩)
 have hf:H1 s1.heap.objs.size=none:=I1.hok.fresh (Nat.le_refl _)
 refine ⟨.ref s1.heap.objs.size,upd H1 s1.heap.objs.size (.tup xs),I1.laid (t':=s1.toks) (λb u e=>Heap.get?_push_of_some _ e) (Nat.le_refl _) ?_,rfl,q _ hf⟩
 exact ⟨z,us,r,⟨_,Heap.get?_push_size _ rfl,rfl,_,rfl⟩⟩
theorem qZ' (h:PA X es t):PE X (.List es pos) (tLst t):=by
 intro pins s σ H Q I hq
 refine wpAny_List_spliced (thn (h pos pins s σ H _ I hq) λus s1 ⟨xs,H1,I1,r,z,q⟩=>⟨by rw [← r.length];exact z,?_⟩)
 have hf:H1 s1.heap.objs.size=none:=I1.hok.fresh (Nat.le_refl _)
 refine ⟨.ref s1.heap.objs.size,upd H1 s1.heap.objs.size (.lst xs),I1.laid (t':=s1.toks) (λb u e=>Heap.get?_push_of_some _ e) (Nat.le_refl _) ?_,rfl,q _ hf⟩
 exact ⟨z,us,0,r,Heap.get?_push_size _ rfl⟩
end
abbrev Sp:=List V->Hp->VK->XK->Prop
abbrev CXT:=List Env->Hp->Shared->XK->Value->Shared->Prop
structure Env0 (P:Program) (w:World) (K:PySem.W.Frag) (mg:Str->Option Value) (base:Heap) (A:Around) (outer:List Env) (s:Shared) (H:Hp):Prop where
 frames:A.frames=some outer
 mod:Mod K mg base
 bs:∀ b o,base.get? b=some o->s.heap.get? b=some o/\H b=none
 bsz:base.objs.size<=s.heap.objs.size
 funs:s.heap.FunFrames base outer
 frf:∀ b∈frs outer,H b=none
 hok:HOk P w H s.heap
 bare:AllBare s.gens
def CE (outer:List Env) (P:Program) (w:World) (H:Hp) (s:Shared) (Q:VK) (u:Value) (s':Shared):Prop :=
 ∃ v H',s'.os=s.os/\AllBare s'.gens/\Un (frs outer) [] H H' s.heap s'.heap/\HOk P w H' s'.heap/\RelV v u/\Q v H'
def CR (CX:CXT) (outer:List Env) (P:Program) (w:World) (H:Hp) (s:Shared) (Q:VK) (E:XK) (r:Result) (s':Shared):Prop :=
 match r with
 | .ok (.ret u)=>CE outer P w H s Q u s'
 | .ok _=>False
 | .error e=>CX outer H s E e s'
structure FnOk (P:Program) (w:World) (K:PySem.W.Frag) (mg:Str->Option Value) (base:Heap) (CX:CXT) (k:Nat) (f:Addr) (fd:FuncData) (ps:List Str) (sp:Sp):Prop where
 len:∀ vs H Q E,sp vs H Q E->vs.length=ps.length
 run:∀ (A:Around) (outer:List Env) (s:Shared) (H:Hp) (args:Args) (us:List Value) (vs:List V) (Q:VK) (E:XK),Room k A->Env0 P w K mg base A outer s H->BindsTo s fd args (ps.zip us)->Vals vs us->sp vs H Q E →
  codeAny (model P w) A (.call (.ref f) args) (CR CX outer P w H s Q E) s
section
variable {X:Cx}{pins:List (Addr×Obj)}{σ:St}{H:Hp}{s s':Shared}
theorem Inv.env0 (I:Inv X pins σ H s):Env0 X.prog X.w X.K X.mg X.base X.A X.stack s H :=
 ⟨I.ok.frames,I.ok.mod,I.bs,Nat.le_trans I.ok.bsz I.sz,I.stack,I.stkFree,I.hok,I.bare⟩
theorem Inv.after {Q:VK}{u:Value} (I:Inv X pins σ H s) (h:CE X.stack X.prog X.w H s Q u s'):EP X pins σ Q u s':=by
 obtain ⟨v,H',os,bare,un,hok,r,q⟩:=h
 obtain ⟨hh,g,d,t,os'⟩:=s'
 obtain rfl:os'=s.os:=os
 exact ⟨v,H',I.call (h':=hh) (g':=g) (d':=d) (t':=t) (ch:=[]) un hok bare (λb z=>absurd z (by simp)),r,q⟩
end
def tCall (sp:Sp) (dvs:List V) (E:XK) (t:TA):TE:=λσ H Q=>t σ H λvs H1=>sp (vs++dvs) H1 Q E
def Binds (K:PySem.W.Frag) (fd:FuncData) (ps:List Str) (ds:List Value):Prop :=
 ∀ (s:Shared) (us:List Value),K.In s.heap->(us++ds).length=ps.length->BindsTo s fd ⟨us,[]⟩ (ps.zip (us++ds))
theorem Binds.all {K:PySem.W.Frag}{fd:FuncData}{ps:List Str} (h:∀ us:List Value,us.length=ps.length->bindArgs fd ⟨us,[]⟩=pure (ps.zip us)):Binds K fd ps []:=λs us _ hl=>by
 rw [List.append_nil] at hl ⊢
 exact .of_eq (h us hl)
def Passes (CX:CXT) (X:Cx) (E:XK):Prop:=∀ (pins:List (Addr×Obj)) (σ:St) (H:Hp) (s:Shared) (e:Value) (s':Shared),Inv X pins σ H s->CX X.stack H s E e s'->X.xe e s'
section
variable {X:Cx}{CX:CXT}{k:Nat}{f C:Addr}{fd:FuncData}{ps:List Str}{sp:Sp}{dvs:List V}{ds:List Value}{E:XK}{x m:Str}{p pos apos:Pos}{e o:Expr}{es:List Expr}{ta:TE}{t:TA}
theorem q0' {pins:List (Addr×Obj)}{σ:St}{H:Hp}{s:Shared}{Q:VK}{us:List Value}{vs:List V} (F:FnOk X.prog X.w X.K X.mg X.base CX k f fd ps sp) (hr:Room k X.A) (hb:Binds X.K fd ps ds) (hd:Vals dvs ds) (hx:Passes CX X E)
  (I:Inv X pins σ H s) (r:Vals vs us) (h:sp (vs++dvs) H Q E):wpAny (model X.prog X.w) X.A (call (.ref f) us) (EP X pins σ Q) X.xe s:=by
 have r2:Vals (vs++dvs) (us++ds):=r.append hd
 have hl:(us++ds).length=ps.length:=by rw [← r2.length];exact F.len _ _ _ _ h
 refine wpAny_call (codeAny_mono (F.run X.A X.stack s H ⟨us,[]⟩ (us++ds) (vs++dvs) Q E hr I.env0 (hb s us I.kIn hl) r2 h) λr s' hq=>?_)
 cases r with
 | error e=>exact hx pins σ H s e s' I hq
 | ok fl =>
  cases fl with
  | ret u=>exact I.after hq
  | next=>exact False.elim hq
  | brk=>exact False.elim hq
  | cont=>exact False.elim hq
theorem fL' (F:FnOk X.prog X.w X.K X.mg X.base CX k f fd ps sp) (hr:Room k X.A) (hg:Gl X x) (hm:X.mg x=some (.ref f)) (hk:PySem.W.keepIn X.K (.ref f)=true) (hb:Binds X.K fd ps ds) (hd:Vals dvs ds) (hx:Passes CX X E)
  (ha:PA X (e::es) t) (hdb:(x == ("__debug__":Str))=false:=by decide) (he:starEach (e::es) X.env=(false,eval e X.env)::starEach es X.env:=by rfl) (hpl:(backTo pos (starEach es X.env)).any (·.1)=false:=by rfl) :
  PE X (.Call (.Name x p) (e::es) [] pos) (tCall sp dvs E t):=by
 intro pins s σ H Q I h
 refine wpAny_Call_Name_kw (kY' I hg hm ?_ hdb)
 refine PySem.W.callWith_K (h₀:=X.base) I.ok.mod.kin hk (thn (ha pos pins s σ H _ I h) λus s1 ⟨vs,H1,I1,r,q⟩=>⟨I1.kIn,?_⟩) he hpl
 exact q0' F hr hb hd hx I1 r q
structure Mk (K:PySem.W.Frag) (C f:Addr):Prop where
 makes:PySem.W.makesIn K C=true
 init:PySem.W.findIn K (.ref C) "__init__"=some (some (.ref f))
 fn:PySem.W.isFn K (.ref f)=true
 kp:PySem.W.keepIn K (.ref C)=true
end
section
variable {X:Cx}{CX:CXT}{k:Nat}{f C:Addr}{fd:FuncData}{ps ks:List Str}{sp:Sp}{E:XK}{x m:Str}{p pos apos kpos:Pos}{e o:Expr}{es:List Expr}{kws:List Keyword}{te ta:TE}{t tk:TA}{nm:Option Str}
structure KBinds (K:PySem.W.Frag) (fd:FuncData) (ps ks:List Str) (g:List Value->List Value->List Value) (gV:List V->List V->List V):Prop where
 to:∀ (s:Shared) (us ws:List Value),K.In s.heap->(g us ws).length=ps.length->BindsTo s fd ⟨us,ks.zip ws⟩ (ps.zip (g us ws))
 rel:∀ {vs:List V}{us:List Value}{zs:List V}{ws:List Value},Vals vs us->Vals zs ws->Vals (gV vs zs) (g us ws)
variable {g:List Value->List Value->List Value}{gV:List V->List V->List V}
end
structure FnScope (N P:List Str) (sc:Scope):Prop where
 kind:sc.kind=.function
 co:sc.isCoroutine=false
 gen:sc.isGenerator=false
 nd:N.Nodup
 pre:N.take P.length=P
 par:∀ x∈P,sc.names.lookup x=some .local\/sc.names.lookup x=some .cell
 nofree:∀ y∈sc.names,y.2≠.free
theorem ie' {kindOf:Str->Option NameKind}{x:Str}:∀ {binds:List (Str×Value)}{m:Str->Option Value},(∀ v,(x,v)∉binds)->bindL kindOf binds m x=m x
 | [],_,_=>rfl
 | (n,v)::r,m,h=>by
  unfold bindL
  rw [ie' λw hw=>h w (List.mem_cons_of_mem _ hw)]
  split
  ·have:x≠n:=by rintro rfl;exact h v List.mem_cons_self
   simp [this]
  ·rfl
theorem if' {kindOf:Str->Option NameKind}{x:Str}:∀ {binds:List (Str×Value)}{m:Str->Option Value},(∀ v,(x,v)∉binds)->bindC kindOf binds m x=m x
 | [],_,_=>rfl
 | (n,v)::r,m,h=>by
  unfold bindC
  rw [if' λw hw=>h w (List.mem_cons_of_mem _ hw)]
  split
  ·rfl
  ·have:x≠n:=by rintro rfl;exact h v List.mem_cons_self
   simp [this]
theorem ig' {kindOf:Str->Option NameKind}{x:Str}{v:Value}:∀ {P:List Str}{vs:List Value}{i:Nat}{m:Str->Option Value},P.Nodup->P[i]?=some x->vs[i]?=some v->kindOf x=some .local →
  bindL kindOf (P.zip vs) m x=some v
 | [],_,_,_,_,h,_,_=>by simp at h
 | _::_,[],_,_,_,_,h,_=>by simp at h
 | p::P,w::vs,0,m,nd,h1,h2,hk=>by
  simp at h1 h2;subst h1;subst h2
  show bindL kindOf ((p,w)::P.zip vs) m p=_
  unfold bindL
  rw [ie' λv hv=>(List.nodup_cons.mp nd).1 (List.of_mem_zip hv).1,if_pos hk]
  simp
 | p::P,w::vs,i+1,m,nd,h1,h2,hk=>by
  show bindL kindOf ((p,w)::P.zip vs) m x=_
  unfold bindL
  exact ig' (i:=i) (List.nodup_cons.mp nd).2 (by simpa using h1) (by simpa using h2) hk
theorem ih' {kindOf:Str->Option NameKind}{x:Str}{v:Value}:∀ {P:List Str}{vs:List Value}{i:Nat}{m:Str->Option Value},P.Nodup->P[i]?=some x->vs[i]?=some v->kindOf x≠some .local →
  bindC kindOf (P.zip vs) m x=some v
 | [],_,_,_,_,h,_,_=>by simp at h
 | _::_,[],_,_,_,_,h,_=>by simp at h
 | p::P,w::vs,0,m,nd,h1,h2,hk=>by
  simp at h1 h2;subst h1;subst h2
  show bindC kindOf ((p,w)::P.zip vs) m p=_
  unfold bindC
  rw [if' λv hv=>(List.nodup_cons.mp nd).1 (List.of_mem_zip hv).1,if_neg hk]
  simp
 | p::P,w::vs,i+1,m,nd,h1,h2,hk=>by
  show bindC kindOf ((p,w)::P.zip vs) m x=_
  unfold bindC
  exact ih' (i:=i) (List.nodup_cons.mp nd).2 (by simpa using h1) (by simpa using h2) hk
def start (N:List Str) (vs:List V):St:=vs.map some++List.replicate (N.length - vs.length) none
def cxOf (CX:CXT) (P:Program) (w:World) (K:PySem.W.Frag) (mg:Str->Option Value) (base:Heap) (N:List Str) (qual:Str) (scope:Scope) (f:Addr) (cd:Value) (A:Around) (outer:List Env) (s:Shared) (H:Hp) (E:XK):Cx where
 prog:=P
 w:=w
 K:=K
 mg:=mg
 base:=base
 A:=A.deeper (envOfC qual scope s.heap.objs.size f cd)
 N:=N
 s₀:=s
 H₀:=H
 env:=envOfC qual scope s.heap.objs.size f cd
 outer:=outer
 stack:=envOfC qual scope s.heap.objs.size f cd::outer
 ex:=[]
 calm:=true
 fn:=λ_=>true
 pn:=[]
 xe:=λe s'=>wpAny (model P w) (A.deeper (envOfC qual scope s.heap.objs.size f cd)) (leaving (envOfC qual scope s.heap.objs.size f cd) e) (λ_ s''=>CX outer H s E e s'') (λe' s''=>CX outer H s E e' s'') s'
theorem i9' {sc:Scope}{n:Nat}{x:Str} (h:sc.names.lookup x=some .cell):∃ c,(cellsFrom n sc.names []).lookup x=some c:=by
 have q:=PySem.W.cellsFrom_some sc.names n [] (.inl h)
 exact Option.isSome_iff_exists.mp q
theorem mK' {CX:CXT}{P:Program}{w:World}{K:PySem.W.Frag}{mg:Str->Option Value}{base:Heap}{N ps:List Str}{qual:Str}{scope:Scope}{f:Addr}{cd:Value}{A:Around}{outer:List Env}{s s1:Shared}{H:Hp}{E:XK}{us:List Value}{vs:List V}
  (S:FnScope N ps scope) (hd:A.handled=none) (e0:Env0 P w K mg base A outer s H) (hl:vs.length=ps.length) (r:Vals vs us)
  (x:InCallC s s.heap.objs.size (bindL (envOfC qual scope s.heap.objs.size f cd).kindOf (ps.zip us) λ_=>none) (cellsFrom (s.heap.objs.size+1) scope.names []) (bindC (envOfC qual scope s.heap.objs.size f cd).kindOf (ps.zip us) λ_=>none) s1) :
  Inv (cxOf CX P w K mg base N qual scope f cd A outer s H E) [] (start N vs) H s1:=by
 have hpl:ps.length<=N.length:=by have:=congrArg List.length S.pre;rw [List.length_take] at this;omega
 obtain ⟨h1,tk,rfl,hk⟩:=x.done
 have noA:∀ b:Addr,b∉(cxOf CX P w K mg base N qual scope f cd A outer s H E).ex:=λb z=>absurd (show b∈([]:List Addr) from z) (by simp)
 refine ⟨⟨e0.mod,S.kind,rfl,rfl,Nat.le_refl _,λy z c h1 h2=>?_,λy hy=>?_,λy c _ h=>?_,λ_=>hd,Around.frames_deeper e0.frames,.inr ⟨rfl,rfl⟩,λb z=>absurd z (noA b),e0.bs,e0.bsz,λb _ _=>noA b,λb z=>absurd z (noA b),e0.funs,e0.frf⟩,
  rfl,e0.bare,Un.kept hk,⟨_,x.toInCall.ns,λi y v h1 h2 h3=>?_⟩,λy c h=>⟨_,x.cell y c h⟩,e0.hok.fresh (Nat.le_refl _),λy c h=>?_,λp hp=>absurd (show p∈([]:List (Addr×Obj)) from hp) (by simp),e0.hok.kept hk,?_⟩
 ·exact name_of_addr x.apart (PySem.mem_of_lookup h1) (PySem.mem_of_lookup h2)
 ·have hy:scope.names.lookup y=some .cell\/scope.names.lookup y=some .free:=hy
  rcases hy with hy | hy
  ·exact i9' hy
  ·exact absurd rfl (S.nofree _ (PySem.mem_of_lookup hy))
 ·exact Nat.le_of_lt (x.above y c (PySem.mem_of_lookup h))
 ·have hi:i < vs.length:=by
   unfold start at h2
   by_cases hi:i < vs.length
   ·exact hi
   ·rw [List.getElem?_append_right (by simpa using hi)] at h2
    rw [List.getElem?_replicate] at h2
    split at h2<;>cases h2
  have ha:vs[i]?=some v:=by
   unfold start at h2
   rw [List.getElem?_append_left (by simpa using hi),List.getElem?_map] at h2
   cases e:vs[i]? with
   | none=>rw [e] at h2;cases h2
   | some a=>rw [e] at h2;cases h2;rfl
  obtain ⟨u,hu,rv⟩:=r.get ha
  have hp:ps[i]?=some y:=by
   rw [← S.pre,List.getElem?_take_of_lt (by omega)];exact h1
  have ndP:ps.Nodup:=by rw [← S.pre];exact S.nd.sublist (List.take_sublist _ _)
  refine ⟨u,rv,?_⟩
  rcases S.par y (List.mem_of_getElem? hp) with k | k
  ·exact .inl ⟨k,ig' ndP hp hu k⟩
  ·obtain ⟨c,e⟩:=i9' (n:=s.heap.objs.size+1) k
   refine .inr ⟨.inl k,c,e,?_⟩
   have q:=x.cell y c e
   rw [ih' ndP hp hu (by show scope.names.lookup y≠_;rw [k];decide)] at q
   exact q
 ·exact e0.hok.fresh (Nat.le_of_lt (x.above y c (PySem.mem_of_lookup h)))
 ·unfold start
  show _=N.length
  rw [List.length_append,List.length_map,List.length_replicate]
  omega
theorem r6' {CX:CXT}{P:Program}{w:World}{K:PySem.W.Frag}{mg:Str->Option Value}{base:Heap}{k:Nat}{f:Addr}{name qual:Str}{params:Arguments}{body:List Stmt}{scope:Scope}{dV kV doc pm cdv ct oc:Value}{an od:Option Addr}
  {osl:Array (Option Value)}{N ps:List Str}{sp:Sp} (lk:K.lookup f=some ⟨oc,od,.func (PySem.W.fnOf name qual params body scope dV kV doc pm an cdv ct),osl⟩) (hcd:PySem.W.codeIn K cdv qual=true) (S:FnScope N ps scope)
  (len:∀ vs H Q E,sp vs H Q E->vs.length=ps.length)
  (hbody:∀ (A:Around) (outer:List Env) (s:Shared) (H:Hp) (vs:List V) (Q:VK) (E:XK),Room k (A.deeper (envOfC qual scope s.heap.objs.size f cdv))->sp vs H Q E →
   ∃ t,PSs (cxOf CX P w K mg base N qual scope f cdv A outer s H E) body t/\t { nx:=λ_ H'=>Q .non H',rt:=Q } (start N vs) H) :
  FnOk P w K mg base CX (k+1) f (PySem.W.fnOf name qual params body scope dV kV doc pm an cdv ct) ps sp:=by
 refine ⟨len,λA outer s H args us vs Q E hr e0 hb r hsp=>?_⟩
 have hl:=len _ _ _ _ hsp
 have KX:K.In s.heap:=e0.mod.kin.keeps λb o e=>(e0.bs b o e).1
 have lim:s.heap.NoLimit:=e0.mod.nolimit.keeps λb o e=>(e0.bs b o e).1
 have hkind:∀ y∈ps.zip us,scope.names.lookup y.1=some .local\/(scope.names.lookup y.1=some .cell/\((cellsFrom (s.heap.objs.size+1) scope.names []).lookup y.1).isSome=true):=λ⟨n,v⟩ hy=>by
  rcases S.par n (List.of_mem_zip hy).1 with q | q
  ·exact .inl q
  ·exact .inr ⟨q,PySem.W.cellsFrom_some _ _ _ (.inl q)⟩
 refine codeAny_call_function hr.depth (KX _ _ lk) rfl S.co S.gen rfl (PySem.W.codeRec_of KX hcd) (hb _ _ _ _ ?_)
 refine wpAny_newFunctionEnv_cells S.kind hkind λenv he s1 x=>?_
 subst he
 refine ⟨lim.keeps x.toInCall.keep,codeAny_func ?_⟩
 obtain ⟨t,ht,hq⟩:=hbody A outer s H vs Q E (hr.deeper _) hsp
 have I:Inv (cxOf CX P w K mg base N qual scope f cdv A outer s H E) [] (start N vs) H s1:=mK' S hr.hd e0 hl r x
 refine wpAny_mono (ht [] s1 (start N vs) H _ I hq) (λfl s' hs=>?_) λe s' hs=>hs
 have fin:∀ {σ':St}{H':Hp}{v:V}{u:Value},Inv (cxOf CX P w K mg base N qual scope f cdv A outer s H E) [] σ' H' s'->RelV v u->Q v H'->CE outer P w H s Q u s' :=
  λ{σ' H' v u} J rv q=>⟨v,H',J.os,J.bare,J.base,J.hok,rv,q⟩
 cases fl with
 | ret u =>
  obtain ⟨v,σ',H',J,rv,q⟩:=hs
  exact fin J rv q
 | next =>
  obtain ⟨σ',H',J,q⟩:=hs
  exact fin (v:=V.non) (u:=Value.none) J rfl q
 | brk =>
  obtain ⟨_,_,_,q⟩:=hs
  exact False.elim q
 | cont =>
  obtain ⟨_,_,_,q⟩:=hs
  exact False.elim q
end L2
namespace L2
open PySem PySem.Spec PyProof.Rows
section
variable {X:Cx}{x:Str}{p pos:Pos}{e:Expr}{es:List Expr}{t:TA}{id T:String}{r:List V->Hp->VK->Prop}
def tCB (r:List V->Hp->VK->Prop) (t:TA):TE:=λσ H Q=>t σ H λvs H1=>r vs H1 Q
theorem eN' (hc:CallR X (.builtin id) r) (hg:Gl X x) (hm:X.mg x=none) (hv:bootBuiltins x=some (.builtin id)) (ha:PA X (e::es) t) (hn:x ≠ "__name__":=by decide) (hdb:(x == ("__debug__":Str))=false:=by decide)
  (he:starEach (e::es) X.env=(false,eval e X.env)::starEach es X.env:=by rfl) (hpl:(backTo pos (starEach es X.env)).any (·.1)=false:=by rfl):PE X (.Call (.Name x p) (e::es) [] pos) (tCB r t):=by
 intro pins s σ H Q I h
 refine wpAny_Call_Name_kw (cY' I hg hm hv ?_ hn hdb)
 exact PyProof.Rows.callWith_builtin1 (thn (ha pos pins s σ H _ I h) λus s1 ⟨vs,H1,I1,r1,q1⟩=>hc pins s1 σ H1 vs us Q I1 r1 q1) he hpl
theorem ii' (hc:CallR X (.type T) r) (hg:Gl X x) (hm:X.mg x=none) (hv:bootBuiltins x=some (.type T)) (ha:PA X (e::es) t) (hn:x ≠ "__name__":=by decide) (hdb:(x == ("__debug__":Str))=false:=by decide)
  (he:starEach (e::es) X.env=(false,eval e X.env)::starEach es X.env:=by rfl) (hpl:(backTo pos (starEach es X.env)).any (·.1)=false:=by rfl):PE X (.Call (.Name x p) (e::es) [] pos) (tCB r t):=by
 intro pins s σ H Q I h
 refine wpAny_Call_Name_kw (cY' I hg hm hv ?_ hn hdb)
 exact PyProof.Rows.callWith_type1 (thn (ha pos pins s σ H _ I h) λus s1 ⟨vs,H1,I1,r1,q1⟩=>hc pins s1 σ H1 vs us Q I1 r1 q1) he hpl
end
end L2
namespace HT
open PySem PyProof.Rows
section
open PySem.SeqAt
open PySem.AutoSeq1 (wpAny_loadPart')
open PySem.MeetsSeq PySem.MeetsSeq2 PySem.MeetsSeq3
end
section
variable {prog:Program}{w:World}{A:Around}{E:Value->Shared->Prop}{s:Shared}
theorem s3' {t b:Addr}{vs ws:List Value}{Q:Value->Shared->Prop} (ht:IsTup s.heap t vs.toArray) (hb:IsTup s.heap b ws.toArray) (hv:vs≠[])
  (h1:ws=[]->Q (.ref t) s) (h2:ws≠[]->Q (.ref s.heap.objs.size) { s with heap:=s.heap.push { cls:=.type "tuple", data:=.seq (vs++ws).toArray } })
  (hsz:vs.length+ws.length<=sizeLine):wpAny (model prog w) A (binaryOp .Add (.ref t) (.ref b)) Q E s:=by
 obtain ⟨⟨cls,dd,data,sl⟩,ho,hc,n,hd⟩:=id ht
 obtain ⟨⟨cls2,dd2,data2,sl2⟩,ho2,hc2,n2,hd2⟩:=id hb
 simp only at hc hd hc2 hd2
 subst hc hd hc2 hd2
 have e:vs.toArray++ws.toArray=(vs++ws).toArray:=by simp
 by_cases hw:ws=[]
 ·exact concat_meets ⟨_,ho,rfl⟩ ⟨_,ho2,rfl⟩ noFill_tuple_add seq_tuple_add PySem.F.slot_tuple_add PySem.F.entry_tuple_add (PySem.F.args_tuple_add_2 _ _)
   (tuple_addW1 t b vs.toArray ws.toArray n n2 dd dd2 sl sl2 (by simpa using hv) (by simp [hw])) ⟨ho,ho2,h1 hw⟩
 ·refine concat_meets ⟨_,ho,rfl⟩ ⟨_,ho2,rfl⟩ noFill_tuple_add seq_tuple_add PySem.F.slot_tuple_add PySem.F.entry_tuple_add (PySem.F.args_tuple_add_2 _ _)
   (tuple_addW2 t b vs.toArray ws.toArray n n2 dd dd2 sl sl2 (by simpa using hv) (by simpa using hw) (by rw [List.size_toArray,List.size_toArray];exact hsz)) ⟨ho,ho2,?_⟩
  rw [e]
  exact h2 hw
def sIx (n d:Nat):Option Int->Nat
 | none=>d
 | some v=>if v < 0 then (v+(n:Int)).toNat else min v.toNat n
theorem sU' (n d:Nat):sIx n d none=d:=rfl
theorem q2' (n d:Nat) (hd:d<=n) (o:Option Int):sIx n d o<=n:=by
 cases o with
 | none=>exact hd
 | some v =>
  show (if v < 0 then (v+(n:Int)).toNat else min v.toNat n)<=n
  by_cases hv:v < 0
  ·rw [if_pos hv];omega
  ·rw [if_neg hv];exact Nat.min_le_right _ _
theorem k0' (v:Int) (n d:Nat):(if v < 0 then max (v+(n:Int)) 0 else min v (n:Int))=((sIx n d (some v):Nat):Int):=by
 show (if v < 0 then max (v+(n:Int)) 0 else min v (n:Int))=(((if v < 0 then (v+(n:Int)).toNat else min v.toNat n):Nat):Int)
 by_cases hv:v < 0
 ·simp only [if_pos hv];omega
 ·simp only [if_neg hv];omega
theorem lH' (lo hi:Option Int) (n:Nat):Builtin.Slice.sliceAdjust lo hi 1 (n:Int)=(((sIx n 0 lo:Nat):Int),((sIx n n hi:Nat):Int)):=by
 have h1:¬ ((1:Int) < 0):=by omega
 unfold Builtin.Slice.sliceAdjust
 simp only [h1,if_false]
 refine Prod.ext ?_ ?_
 ·cases lo with
  | none=>rfl
  | some v=>exact k0' v n 0
 ·cases hi with
  | none=>rfl
  | some v=>exact k0' v n n
theorem lI' (i j:Nat):Builtin.Slice.slicePlaces (i:Int) (j:Int) 1=j - i:=by
 unfold Builtin.Slice.slicePlaces
 have h1:(1:Int) > 0:=by omega
 simp only [h1,if_true,Int.ediv_one]
 split<;>omega
theorem gC' {v:Value}{o:Option Int}{Q:Option Int->Shared->Prop} (p:IsPart v o) (h:Q o s):wpAny (model prog w) A (Builtin.Slice.slicePartIndex v) Q E s:=by
 cases p with
 | none=>exact slicePart_none h
 | int i t=>exact slicePart_int h
theorem f5' {sl:Addr}{vl vu:Value}{lo hi:Option Int}{n:Nat}{Q:Int×Int×Nat->Shared->Prop} (hs:s.heap.IsSliceOf sl vl vu .none) (pl:IsPart vl lo) (pu:IsPart vu hi)
  (h:Q (((sIx n 0 lo:Nat):Int),1,sIx n n hi - sIx n 0 lo) s):wpAny (model prog w) A (Builtin.Slice.sliceApplied (.ref sl) (pure (n:Int))) Q E s:=by
 obtain ⟨os,hos,hcs,hds⟩:=id hs
 unfold Builtin.Slice.sliceApplied Builtin.Slice.sliceFields
 refine wpAny_bind (wpAny_bind (wpAny_field hos hds (x:=vl) rfl (wpAny_bind (wpAny_field hos hds (x:=vu) rfl (wpAny_bind (wpAny_field hos hds (x:=.none) rfl (wpAny_pure ?_)))))))
 refine wpAny_bind (slicePart_none ?_)
 show wpAny _ _ (if ((1:Int) == 0)=true then _ else _) _ _ s
 rw [if_neg (by decide)]
 refine wpAny_bind (gC' pl (wpAny_bind (gC' pu (wpAny_bind (wpAny_pure ?_)))))
 show wpAny _ _ (match Builtin.Slice.sliceAdjust lo hi 1 (n:Int) with | (lo,hi)=>pure (lo,(1:Int),Builtin.Slice.slicePlaces lo hi 1)) _ _ s
 rw [lH' lo hi n]
 show wpAny _ _ (pure (((sIx n 0 lo:Nat):Int),(1:Int),Builtin.Slice.slicePlaces ((sIx n 0 lo:Nat):Int) ((sIx n n hi:Nat):Int) 1)) _ _ s
 rw [lI']
 exact wpAny_pure h
theorem ol' (xs:Array Value) (i k:Nat):((List.range k).filterMap λ(m:Nat)=>xs[((i:Int)+(m:Int)*1).toNat]?).toArray=((xs.toList.drop i).take k).toArray:=by
 have e:(λ(m:Nat)=>xs[((i:Int)+(m:Int)*1).toNat]?)=λm=>xs[i+m]?:=by
  funext m
  have:((i:Int)+(m:Int)*1).toNat=i+m:=by omega
  rw [this]
 rw [e]
 have:=pick_run xs i k
 rw [List.filterMap_map] at this
 have e2:((λx=>xs[x]?)∘λx=>i+x)=λm=>xs[i+m]?:=rfl
 rw [e2] at this
 rw [this]
theorem oc' {t sl:Addr}{items:Array Value}{vl vu:Value}{lo hi:Option Int}{Q:Value->Shared->Prop} (ht:IsTup s.heap t items) (hs:s.heap.IsSliceOf sl vl vu .none) (pl:IsPart vl lo) (pu:IsPart vu hi)
  (hw:¬ (sIx items.size 0 lo=0/\sIx items.size items.size hi=items.size))
  (h:Q (.ref s.heap.objs.size) { s with heap:=s.heap.push { cls:=.type "tuple", data:=.seq ((items.toList.drop (sIx items.size 0 lo)).take (sIx items.size items.size hi - sIx items.size 0 lo)).toArray } })
  (hsz:items.size<=sizeLine):wpAny (model prog w) A (getItem (.ref t) (.ref sl)) Q E s:=by
 have htake:sizeOk (.seq ((items.toList.drop (sIx items.size 0 lo)).take (sIx items.size items.size hi - sIx items.size 0 lo)).toArray):=by
  show ((items.toList.drop (sIx items.size 0 lo)).take (sIx items.size items.size hi - sIx items.size 0 lo)).toArray.size<=sizeLine
  rw [List.size_toArray,List.length_take,List.length_drop,Array.length_toList]
  omega
 have hj:sIx items.size items.size hi<=items.size:=q2' _ _ (Nat.le_refl _) hi
 obtain ⟨os,hos,hcs,hds⟩:=id hs
 have hTs:s.TypeIs (.ref sl) "slice":=⟨os,hos,hcs⟩
 unfold getItem
 try with_reducible refine wpAny_holding ?_
 first | refine wpAny_bind (wpAny_pure ?_) | skip
 refine wpAny_bind (wpAny_sequenceKey ht.typeIs (by decide) ?_)
 refine wpAny_bind (wpAny_callSpecial?_slot (name:=Str.ofString "__getitem__") ht.typeIs PyProof.Rows.slot_tuple_getitem
  (wpAny_call_entry PyProof.Rows.slot_tuple_getitem ht.typeIs entry_tuple_getitem ?_ (args_tuple_getitem _ _)))
 show wpAny _ _ (Builtin.Tuple.tupleItemsOf (.ref t) >>= _) _ _ s
 refine wpAny_bind (tupleItemsOf_ ht ?_)
 refine wpAny_bind (wpAny_typeOf hTs ?_)
 rw [if_pos (by decide)]
 refine wpAny_bind (f5' hs pl pu ?_)
 have hno:¬ ((((sIx items.size 0 lo:Nat):Int) == 0&&(1:Int) == 1&&(sIx items.size items.size hi - sIx items.size 0 lo) == items.size)=true):=by
  intro q
  rw [Bool.and_eq_true,Bool.and_eq_true] at q
  have q1:((sIx items.size 0 lo:Nat):Int)=0:=eq_of_beq q.1.1
  have q2:sIx items.size items.size hi - sIx items.size 0 lo=items.size:=eq_of_beq q.2
  exact hw ⟨by omega,by omega⟩
 show wpAny _ _ (if (((sIx items.size 0 lo:Nat):Int) == 0&&(1:Int) == 1&&(sIx items.size items.size hi - sIx items.size 0 lo) == items.size)=true then _ else _) _ _ s
 rw [if_neg hno,ol']
 first
  | exact wpAny_bind (m:=Builtin.Tuple.tupleExact _) (wpAny_newObj_type (wpAny_pure ⟨_,rfl,wpAny_pure h⟩) htake)
  | exact wpAny_bind (m:=Builtin.Tuple.tupleExact _) (wpAny_newObj_type (wpAny_bind (wpAny_pure (wpAny_pure ⟨_,rfl,wpAny_pure h⟩))) htake)
  | exact wpAny_bind (wpAny_bind (m:=Builtin.Tuple.tupleExact _) (wpAny_newObj_type (wpAny_pure (wpAny_pure ⟨_,rfl,wpAny_pure h⟩)) htake))
  | exact wpAny_bind (wpAny_bind (m:=Builtin.Tuple.tupleExact _) (wpAny_newObj_type (wpAny_pure ⟨_,rfl,wpAny_pure h⟩) htake))
end
end HT
namespace L2
open PySem PySem.Spec PyProof.Rows
abbrev TO:=St->Hp->(Option Int->Hp->Prop)->Prop
def PO (X:Cx) (e:Option Expr) (t:TO):Prop :=
 ∀ (pins:List (Addr×Obj)) (s:Shared) (σ:St) (H:Hp) (Q:Option Int->Hp->Prop),Inv X pins σ H s->t σ H Q →
  wpAny (model X.prog X.w) X.A (evalPart e X.env) (λu s'=>∃ o H',Inv X pins σ H' s'/\IsPart u o/\Q o H') X.xe s
def tNoPart:TO:=λ_ H Q=>Q none H
def tPart (t:TE):TO:=λσ H Q=>t σ H λx H1=>∃ i,x=.int i/\Q (some i) H1
section
variable {X:Cx}{e:Expr}{te:TE}{lo hi:Option Expr}{tl th:TO}{pos p2:Pos}
theorem pB':PO X none tNoPart:=by
 intro pins s σ H Q I h
 rw [evalPart_none]
 exact wpAny_pure ⟨none,H,I,.none,h⟩
theorem pC' (h:PE X e te):PO X (some e) (tPart te):=by
 intro pins s σ H Q I hw
 rw [evalPart_some]
 refine thn (h pins s σ H _ I hw) λu s1 ⟨x,H1,I1,r1,q1⟩=>?_
 obtain ⟨i,rfl,q⟩:=q1
 obtain ⟨t,rfl⟩:=r1
 exact ⟨some i,H1,I1,.int i t,q⟩
def SlR (X:Cx) (r:V->Option Int->Option Int->Hp->VK->Prop):Prop :=
 ∀ (pins:List (Addr×Obj)) (s:Shared) (σ:St) (H:Hp) (x:V) (v vl vu:Value) (lo hi:Option Int) (sl:Addr) (Q:VK),Inv X pins σ H s->RelV x v->s.heap.IsSliceOf sl vl vu .none->IsPart vl lo->IsPart vu hi->r x lo hi H Q →
  ∃ T id,typeLookup (.type T) "__getitem__"=pure (some (.builtin id))/\s.TypeIs v T/\wpAny (model X.prog X.w) X.A (getItem v (.ref sl)) (EP X pins σ Q) X.xe s
theorem SlR.or {r r':V->Option Int->Option Int->Hp->VK->Prop} (h:SlR X r) (h':SlR X r'):SlR X (λx lo hi H Q=>r x lo hi H Q\/r' x lo hi H Q):=by
 intro pins s σ H x v vl vu lo hi sl Q I rx hs pl pu q
 rcases q with q | q
 ·exact h pins s σ H x v vl vu lo hi sl Q I rx hs pl pu q
 ·exact h' pins s σ H x v vl vu lo hi sl Q I rx hs pl pu q
def tSl (r:V->Option Int->Option Int->Hp->VK->Prop) (te:TE) (tl th:TO):TE:=λσ H Q=>te σ H λx H1=>tl σ H1 λl H2=>th σ H2 λu H3=>r x l u H3 Q
theorem ja' {r:V->Option Int->Option Int->Hp->VK->Prop} (hr:SlR X r) (he:PE X e te) (hl:PO X lo tl) (hu:PO X hi th):PE X (.Subscript e (.Slice lo hi none p2) pos) (tSl r te tl th):=by
 intro pins s σ H Q I h
 refine Subscript_ (thn (he pins s σ H _ I h) λv s1 ⟨x,H1,I1,r1,q1⟩=>?_)
 refine wpAny_Slice (thn (hl pins s1 σ H1 _ I1 q1) λvl s2 ⟨l,H2,I2,pl,q2⟩=>thn (hu pins s2 σ H2 _ I2 q2) λvu s3 ⟨u,H3,I3,pu,q3⟩=>?_)
 rw [evalPart_none]
 refine wpAny_pure ?_
 have I4:Inv X pins σ H3 { s3 with heap:=s3.heap.push { cls:=.type "slice", data:=.fields #[vl,vu,.none] } }:=I3.kept (t':=s3.toks) λb ob q=>Heap.get?_push_of_some _ q
 obtain ⟨T,id,hT,ht,hg⟩:=hr pins { s3 with heap:=s3.heap.push { cls:=.type "slice", data:=.fields #[vl,vu,.none] } } σ H3 x v vl vu l u s3.heap.objs.size Q I4 r1 (Heap.IsSliceOf.new ..) pl pu q3
 show wpAny (model X.prog X.w) X.A (subscriptTail e (.Slice lo hi none p2) v (.ref s3.heap.objs.size)) (EP X pins σ Q) X.xe { s3 with heap:=s3.heap.push { cls:=.type "slice", data:=.fields #[vl,vu,.none] } }
 exact tail_any (ops:=[.ref s3.heap.objs.size,v]) ht hT hg (by with_unfolding_all rfl)
def cutV (xs:List V) (lo hi:Option Int):List V:=(xs.drop (HT.sIx xs.length 0 lo)).take (HT.sIx xs.length xs.length hi - HT.sIx xs.length 0 lo)
theorem fW' (xs:List V) (lo hi:Option Int):(cutV xs lo hi).length<=xs.length:=by
 unfold cutV
 rw [List.length_take,List.length_drop]
 omega
def rSlT (K:PySem.W.Frag):V->Option Int->Option Int->Hp->VK->Prop:=λx lo hi H Q=>∃ a xs,x=.ref a/\SqT K H a xs ∧
 ¬ (HT.sIx xs.length 0 lo=0/\HT.sIx xs.length xs.length hi=xs.length)/\∀ p,H p=none->Q (.ref p) (upd H p (.tup (cutV xs lo hi)))
theorem q3':SlR X (rSlT X.K):=by
 intro pins s σ H x v vl vu lo hi sl Q I rx hs pl pu h
 obtain ⟨a,xs,rfl,hx,hw,q⟩:=h
 cases rx
 obtain ⟨its,r,ht,hz⟩:=I.tuple hx
 have hlen:its.toArray.size=xs.length:=by rw [List.size_toArray];exact r.length.symm
 refine ⟨"tuple", _,PyProof.Rows.slot_tuple_getitem.lookup,ht.typeIs,?_⟩
 refine HT.oc' ht hs pl pu (by rw [hlen];exact hw) ?_ (by rw [hlen];exact hz)
 rw [hlen]
 refine ⟨.ref s.heap.objs.size,_,I.laid (t':=s.toks) (o:=.tup (cutV xs lo hi)) (λb ob q=>Heap.get?_push_of_some _ q) (Nat.le_refl _) ?_,rfl,q _ (I.hok.fresh (Nat.le_refl _))⟩
 exact ⟨Nat.le_trans (fW' xs lo hi) hz,_,(r.drop (HT.sIx xs.length 0 lo)).take (HT.sIx xs.length xs.length hi - HT.sIx xs.length 0 lo),IsTup.new _ _⟩
def rCatT (K:PySem.W.Frag):R2:=λx y H Q=>∃ a b xs ys,x=.ref a/\y=.ref b/\SqT K H a xs/\SqT K H b ys/\xs≠[]/\xs.length+ys.length<=sizeLine ∧
 (ys=[]->Q (.ref a) H)/\(ys≠[]->∀ p,H p=none->Q (.ref p) (upd H p (.tup (xs++ys))))
theorem Vals.nil_iff {xs:List V}{us:List Value} (r:Vals xs us):us=[]↔xs=[]:=by
 cases r with
 | nil=>simp
 | cons _ _=>simp
theorem pD':OpR X (binaryOp .Add) (rCatT X.K):=by
 intro pins s σ H x y v u Q I rx ry h
 obtain ⟨a,b,xs,ys,rfl,rfl,ha,hb,hx,hz,q1,q2⟩:=h
 cases rx
 cases ry
 obtain ⟨its,r1,p1,_⟩:=I.tuple ha
 obtain ⟨its2,r2,p2,_⟩:=I.tuple hb
 refine HT.s3' p1 p2 (λz=>hx (r1.nil_iff.mp z)) (λz=>⟨.ref a,H,I,rfl,q1 (r2.nil_iff.mp z)⟩) (λz=>?_) (by rw [← r1.length,← r2.length];exact hz)
 refine ⟨.ref s.heap.objs.size,_,I.laid (t':=s.toks) (o:=.tup (xs++ys)) (λb ob q=>Heap.get?_push_of_some _ q) (Nat.le_refl _) ?_,rfl,q2 (λw=>z (r2.nil_iff.mpr w)) _ (I.hok.fresh (Nat.le_refl _))⟩
 exact ⟨by rw [List.length_append];exact hz,_,r1.append r2,IsTup.new _ _⟩
end
end L2
namespace L2
open PySem PySem.Spec PyProof.Rows
def ixN (n:Nat) (i:Int):Option Nat:=if 0<=i then (if i < n then some i.toNat else none) else if -(n:Int)<=i then some (i+n).toNat else none
def atI {α:Type} (xs:List α) (i:Int):Option α:=(ixN xs.length i).bind λj=>xs[j]?
theorem k1' {n:Nat}{i:Int}{j:Nat} (h:ixN n i=some j):seqIndex? i n=some j/\j < n/\-(n:Int)<=i/\i < n:=by
 unfold ixN at h
 by_cases h0:0<=i
 ·rw [if_pos h0] at h
  by_cases h1:i < n
  ·rw [if_pos h1] at h
   have e:i.toNat=j:=Option.some.inj h
   exact ⟨by rw [seqIndex_of h0 h1,e],by omega,by omega,h1⟩
  ·rw [if_neg h1] at h;cases h
 ·rw [if_neg h0] at h
  by_cases h1:-(n:Int)<=i
  ·rw [if_pos h1] at h
   have e:(i+n).toNat=j:=Option.some.inj h
   exact ⟨by rw [seqIndex_neg (by omega) h1,e],by omega,h1,by omega⟩
  ·rw [if_neg h1] at h;cases h
theorem k2' {α:Type}{xs:List α}{i:Int}{v:α} (h:atI xs i=some v):∃ j,seqIndex? i xs.length=some j/\xs[j]?=some v/\j < xs.length/\-(xs.length:Int)<=i/\i < xs.length:=by
 unfold atI at h
 cases e:ixN xs.length i with
 | none=>rw [e] at h;cases h
 | some j =>
  rw [e] at h
  obtain ⟨h1,h2,h3,h4⟩:=k1' e
  exact ⟨j,h1,h,h2,h3,h4⟩
def PlainIx (b:Expr):Prop:=∀ o i,subscripted b false o i=operate [o,i] (getItem o i)
def IxR (X:Cx) (r:R2):Prop :=
 ∀ (value slice:Expr) (pins:List (Addr×Obj)) (s:Shared) (σ:St) (H:Hp) (x y:V) (v u:Value) (Q:VK),Inv X pins σ H s->RelV x v->RelV y u->r x y H Q →
  subscripted slice false v u=operate [v,u] (getItem v u)->wpAny (model X.prog X.w) X.A (subscriptTail value slice v u) (EP X pins σ Q) X.xe s
def MtR (X:Cx) (id:String) (r:V->List V->Hp->VK->Prop):Prop :=
 ∀ (pins:List (Addr×Obj)) (s:Shared) (σ:St) (H:Hp) (x:V) (xs:List V) (v:Value) (us:List Value) (Q:VK),Inv X pins σ H s->RelV x v->Vals xs us->r x xs H Q →
  wpAny (model X.prog X.w) X.A (call (.builtin id) (v::us)) (EP X pins σ Q) X.xe s
section
variable {X:Cx}{a b:Expr}{ta tb:TE}{pos:Pos}
theorem IxR.or {r r':R2} (h:IxR X r) (h':IxR X r'):IxR X (λx y H Q=>r x y H Q\/r' x y H Q):=by
 intro value slice pins s σ H x y v u Q I rx ry q hs
 rcases q with q | q
 ·exact h value slice pins s σ H x y v u Q I rx ry q hs
 ·exact h' value slice pins s σ H x y v u Q I rx ry q hs
theorem pd' {r:R2} (hr:IxR X r) (ha:PE X a ta) (hb:PE X b tb) (hs:PlainIx b):PE X (.Subscript a b pos) (tOp r ta tb):=by
 intro pins s σ H Q I h
 exact Subscript_ (binT ha hb I h λv u s2 x y H2 I2 rx ry q=>hr a b pins s2 σ H2 x y v u Q I2 rx ry q (hs _ _))
def rIxL (K:PySem.W.Frag):R2:=λx y H Q=>∃ p xs i v,x=.ref p/\y=.int i/\SqL K H p xs/\atI xs i=some v/\Q v H
def rIxT (K:PySem.W.Frag):R2:=λx y H Q=>∃ p xs i v,x=.ref p/\y=.int i/\SqT K H p xs/\atI xs i=some v/\Q v H
theorem k3':IxR X (rIxL X.K):=by
 intro value slice pins s σ H x y v u Q I rx ry h hs
 obtain ⟨p,xs,i,z,rfl,rfl,hq,he,q⟩:=h
 cases rx
 obtain ⟨t,rfl⟩:=ry
 obtain ⟨its,r,pl,hz⟩:=I.list hq
 obtain ⟨j,h1,h2,h3,h4,h5⟩:=k2' he
 obtain ⟨w,ew,rw'⟩:=r.get h2
 have hl:=r.length
 have hn:=line63
 have fin:EP X pins σ Q w s:=⟨z,H,I,rw',q⟩
 by_cases h0:0<=i
 ·have hj:i.toNat=j:=by
   rw [seqIndex_of h0 h5] at h1
   exact Option.some.inj h1
  exact item_listR pl.isList h0 (by omega) (by rw [hj];simpa using ew) fin hs
 ·have hj:(i+(its.toArray.size:Int)).toNat=j:=by
   rw [seqIndex_neg (by omega) h4] at h1
   rw [List.size_toArray,← hl]
   exact Option.some.inj h1
  exact subscriptTail_builtinR (x:=w) pl.isList.typeIs slot_list_getitem.lookup
   (wpAny_getItem_list_neg (Q:=λr s'=>r=w/\EP X pins σ Q r s') pl.isList (by omega) (by rw [List.size_toArray]<;>omega) (by omega) (by rw [hj];simpa using ew) ⟨rfl,fin⟩) hs
theorem q4':IxR X (rIxT X.K):=by
 intro value slice pins s σ H x y v u Q I rx ry h hs
 obtain ⟨p,xs,i,z,rfl,rfl,hq,he,q⟩:=h
 cases rx
 obtain ⟨t,rfl⟩:=ry
 obtain ⟨its,r,pl,hz⟩:=I.tuple hq
 obtain ⟨j,h1,h2,h3,h4,h5⟩:=k2' he
 obtain ⟨w,ew,rw'⟩:=r.get h2
 have hl:=r.length
 have hn:=line63
 have fin:EP X pins σ Q w s:=⟨z,H,I,rw',q⟩
 exact subscriptTail_builtinR (x:=w) pl.typeIs slot_tuple_getitem.lookup
  (getItem_tuple (j:=j) (Q:=λr s'=>r=w/\EP X pins σ Q r s') pl (by omega) (by omega) (by rw [List.size_toArray,← hl];exact h1) (by simpa using ew) ⟨rfl,fin⟩) hs
theorem lJ' (its:List Value) (n j:Nat) (u:Value):Obj.mapSeq (·.setIfInBounds j u) { cls:=.type "list", data:=.seq its.toArray n }={ cls:=.type "list", data:=.seq (its.set j u).toArray n }:=by
 simp [Obj.mapSeq]
theorem Inv.lst {pins:List (Addr×Obj)}{σ:St}{H:Hp}{s:Shared}{p:Addr}{xs:List V} (I:Inv X pins σ H s) (h:H p=some (.lst xs)) :
  ∃ (its:List Value) (n:Nat),Vals xs its/\s.heap.get? p=some { cls:=.type "list", data:=.seq its.toArray n }/\xs.length<=sizeLine:=by
 obtain ⟨z,its,n,r,e⟩:=I.hok p _ h
 exact ⟨its,n,r,e,z⟩
theorem Inv.lstUpd {pins:List (Addr×Obj)}{σ:St}{H:Hp}{s:Shared}{p:Addr}{xs ys:List V}{its its':List Value}{n n':Nat}{f:Obj->Obj} (I:Inv X pins σ H s) (h:H p=some (.lst xs))
  (ho:s.heap.get? p=some { cls:=.type "list", data:=.seq its.toArray n }) (hf:f { cls:=.type "list", data:=.seq its.toArray n }={ cls:=.type "list", data:=.seq its'.toArray n' }) (r:Vals ys its') (hz:ys.length<=sizeLine) (t:Nat) :
  Inv X pins σ (upd H p (.lst ys)) { s with heap:=s.heap.update p f,toks:=t }:=by
 have e:(s.heap.update p f).get? p=some { cls:=.type "list", data:=.seq its'.toArray n' }:=by
  rw [Heap.get?_update_self f ho (by rw [hf]<;>rfl),hf]
 refine I.write (x:=p) (e:=p) (by rw [h];trivial) (.inl rfl) (λb u hb q=>(Heap.get?_update_other _ _ (Ne.symm hb)).trans q) ⟨_,e⟩ ?_
 exact ⟨hz,its',n',r,e⟩
def rSetL:V->V->V->Hp->(Hp->Prop)->Prop:=λo i v H Q=>∃ p xs k j,o=.ref p/\i=.int k/\H p=some (.lst xs)/\ixN xs.length k=some j/\Q (upd H p (.lst (xs.set j v)))
theorem om':PSet X rSetL:=by
 intro pins s σ H o i v ov iv u Q I ro ri rv h
 obtain ⟨p,xs,k,j,rfl,rfl,hp,hj,q⟩:=h
 cases ro
 obtain ⟨t,rfl⟩:=ri
 obtain ⟨its,n,r,ho,hz⟩:=I.lst hp
 obtain ⟨h1,h2,h3,h4⟩:=k1' hj
 have hl:=r.length
 have hn:=line63
 have I':Inv X pins σ (upd H p (.lst (xs.set j v))) { s with heap:=s.heap.update p (Obj.mapSeq (·.setIfInBounds j u)) } :=
  I.lstUpd hp ho (lJ' its n j u) (r.set rv j) (by rw [List.length_set];exact hz) s.toks
 by_cases h0:0<=k
 ·have hk:k.toNat=j:=by
   rw [seqIndex_of h0 h4] at h1
   exact Option.some.inj h1
  exact PySem.W.ki_setAt ho h0 (by omega) (by rw [List.size_toArray,← hl];exact h4) (by rw [hk];exact ⟨_,I',q⟩)
 ·have hk:(k+(its.toArray.size:Int)).toNat=j:=by
   rw [seqIndex_neg (by omega) h3] at h1
   rw [List.size_toArray,← hl]
   exact Option.some.inj h1
  exact PySem.W.ki_setBack ho (by omega) (by rw [List.size_toArray,← hl];exact h3) (by omega) (by rw [hk];exact ⟨_,I',q⟩)
theorem jb' (lo hi:Option Int) (n:Nat):(sliceBounds lo hi none n).1=((HT.sIx n 0 lo:Nat):Int)/\(sliceBounds lo hi none n).2.1=((HT.sIx n n hi:Nat):Int)/\(sliceBounds lo hi none n).2.2=1:=by
 refine ⟨?_,?_,rfl⟩
 ·cases lo with
  | none=>simp [sliceBounds,HT.sIx]
  | some i =>
   simp only [sliceBounds,HT.sIx,Option.getD_none,show (1:Int) > 0 by decide,if_true]
   by_cases h:i < 0
   ·simp only [h,if_true]<;>omega
   ·simp only [h,if_false]<;>omega
 ·cases hi with
  | none=>simp [sliceBounds,HT.sIx]
  | some i =>
   simp only [sliceBounds,HT.sIx,Option.getD_none,show (1:Int) > 0 by decide,if_true]
   by_cases h:i < 0
   ·simp only [h,if_true]<;>omega
   ·simp only [h,if_false]<;>omega
theorem iM' (its:List Value) (lo hi:Option Int):slicePick its.toArray lo hi none=((its.drop (HT.sIx its.length 0 lo)).take (HT.sIx its.length its.length hi - HT.sIx its.length 0 lo)).toArray:=by
 obtain ⟨h1,h2,h3⟩:=jb' lo hi its.toArray.size
 unfold slicePick
 rw [h1,h2,h3]
 simp only [sliceRange_one,pick_run,List.size_toArray]<;>rfl
def rSlL (K:PySem.W.Frag):V->Option Int->Option Int->Hp->VK->Prop:=λx lo hi H Q=>∃ a xs,x=.ref a/\SqL K H a xs/\∀ p,H p=none->Q (.ref p) (upd H p (.lst (cutV xs lo hi)))
theorem pE':SlR X (rSlL X.K):=by
 intro pins s σ H x v vl vu lo hi sl Q I rx hs pl pu h
 obtain ⟨a,xs,rfl,hx,q⟩:=h
 cases rx
 obtain ⟨its,r,ht,hz⟩:=I.list hx
 have hlen:=r.length
 refine ⟨"list", _,slot_list_getitem.lookup,ht.isList.typeIs,?_⟩
 refine wpAny_getItem_list_slice ht.isList hs pl pu .none (by simp) ?_ (by rw [List.size_toArray]<;>omega)
 rw [iM',← hlen]
 refine ⟨.ref s.heap.objs.size,_,I.laid (t':=s.toks) (o:=.lst (cutV xs lo hi)) (λb ob q=>Heap.get?_push_of_some _ q) (Nat.le_refl _) ?_,rfl,q _ (I.hok.fresh (Nat.le_refl _))⟩
 exact ⟨Nat.le_trans (fW' xs lo hi) hz,_,0,(r.drop (HT.sIx xs.length 0 lo)).take (HT.sIx xs.length xs.length hi - HT.sIx xs.length 0 lo),Heap.get?_push_size _ rfl⟩
theorem jc':CallR X (.builtin "len") (λxs H Q=>∃ p ys,xs=[.ref p]/\(SqL X.K H p ys\/SqT X.K H p ys)/\Q (.int ys.length) H):=by
 intro pins s σ H xs us Q I r h
 obtain ⟨p,ys,rfl,hq,q⟩:=h
 obtain ⟨u,rfl,rx⟩:=vals1 r
 cases rx
 have hn:=line63
 rcases hq with hq | hq
 ·obtain ⟨its,r',pl,hz⟩:=I.list hq
  have hlen:=r'.length
  exact Calls.call_len_list pl.isList (by simp only [List.size_toArray]<;>omega) ⟨.int ys.length,H,I.tok _,⟨s.toks+1,by rw [List.size_toArray,hlen]⟩,q⟩
 ·obtain ⟨its,r',pl,hz⟩:=I.tuple hq
  have hlen:=r'.length
  exact len_tuple pl (by simp only [List.size_toArray]<;>omega) ⟨.int ys.length,H,I.tok _,⟨s.toks+1,by rw [List.size_toArray,hlen]⟩,q⟩
theorem jd':CallR X (.type "list") (λxs H Q=>∃ p ys,xs=[.ref p]/\(SqL X.K H p ys\/SqT X.K H p ys)/\∀ l,H l=none->Q (.ref l) (upd H l (.lst ys))):=by
 intro pins s σ H xs us Q I r h
 obtain ⟨p,ys,rfl,hq,q⟩:=h
 obtain ⟨u,rfl,rx⟩:=vals1 r
 cases rx
 have fin:∀ (its:List Value),Vals ys its->ys.length<=sizeLine->∀ (h':Heap) (c':Nat),(∀ b o',s.heap.get? b=some o'->h'.get? b=some o') →
   h'.get? s.heap.objs.size=some { cls:=.type "list", dict:=none,data:=.seq its.toArray c',slots:=#[] }->EP X pins σ Q (.ref s.heap.objs.size) { s with heap:=h' }:=λits r' hz h' c' kp e =>
  ⟨.ref s.heap.objs.size,_,I.laid (t':=s.toks) kp (Nat.le_refl _) (show ObjOk X.prog X.w _ h' _ (.lst ys) from ⟨hz,its,c',r',e⟩),rfl,q _ (I.hok.fresh (Nat.le_refl _))⟩
 rcases hq with hq | hq
 ·obtain ⟨its,r',pl,hz⟩:=I.list hq
  have hlen:=r'.length
  obtain ⟨o,ho,hc,n,hd⟩:=pl.isList
  exact call_list_seq p (.inl rfl) ho hc hd (λh' c' kp e=>fin its r' hz h' c' kp e) (by simp only [List.size_toArray]<;>omega)
 ·obtain ⟨its,r',pl,hz⟩:=I.tuple hq
  have hlen:=r'.length
  obtain ⟨o,ho,hc,n,hd⟩:=pl
  exact call_list_seq p (.inr rfl) ho hc hd (λh' c' kp e=>fin its r' hz h' c' kp e) (by simp only [List.size_toArray]<;>omega)
theorem iN':CallR X (.type "tuple") (λxs H Q=>∃ p ys,xs=[.ref p]/\((SqL X.K H p ys/\∀ l,H l=none->Q (.ref l) (upd H l (.tup ys)))\/(SqT X.K H p ys/\Q (.ref p) H))):=by
 intro pins s σ H xs us Q I r h
 obtain ⟨p,ys,rfl,h⟩:=h
 obtain ⟨u,rfl,rx⟩:=vals1 r
 cases rx
 rcases h with ⟨hq,q⟩ | ⟨hq,q⟩
 ·obtain ⟨its,r',pl,hz⟩:=I.list hq
  have hlen:=r'.length
  refine call_tuple_list pl.isList (λh' kp=>?_) (by simp only [List.size_toArray]<;>omega)
  have I1:Inv X pins σ H { s with heap:=h' }:=I.kept (t':=s.toks) kp
  have I2:Inv X pins σ (upd H h'.objs.size (.tup ys)) { s with heap:=h'.push { cls:=.type "tuple", data:=.seq its.toArray } } :=
   I1.laid (t':=s.toks) (λb o e=>Heap.get?_push_of_some _ e) (Nat.le_refl _) (show ObjOk X.prog X.w _ _ _ (.tup ys) from ⟨hz,its,r',IsTup.new _ _⟩)
  exact ⟨.ref h'.objs.size,_,I2,rfl,q _ (I1.hok.fresh (Nat.le_refl _))⟩
 ·obtain ⟨its,r',pl,hz⟩:=I.tuple hq
  exact call_tuple_same pl ⟨.ref p,H,I,rfl,q⟩
def tyV (K:PySem.W.Frag) (T:String) (x:V) (H:Hp):Prop:=match x with
 | .str _=>T = "str"
 | .int _=>T = "int"
 | .ref p=>(T = "list"/\∃ xs,SqL K H p xs)\/(T = "tuple"/\∃ o,K.lookup p=some o/\o.cls=.type "tuple"/\o.dict=none) ∨
   (T = "dict"/\((∃ kvs,H p=some (.dK kvs))\/∃ kvs,H p=some (.dT kvs)))\/(T = "set"/\∃ S n,H p=some (.set S n))
 | _=>False
theorem mL' {pins:List (Addr×Obj)}{σ:St}{H:Hp}{s:Shared}{T:String}{x:V}{v:Value} (I:Inv X pins σ H s) (r:RelV x v) (ty:tyV X.K T x H) :
  s.TypeIs v T/\∀ a,v=.ref a->∃ ob,s.heap.get? a=some ob/\ob.dict=none:=by
 cases x with
 | str z =>
  obtain ⟨t,rfl⟩:=r
  cases (show T = "str" from ty)
  exact ⟨typeIs_str s z t,λ_ e=>nomatch e⟩
 | int i =>
  obtain ⟨t,rfl⟩:=r
  cases (show T = "int" from ty)
  exact ⟨typeIs_int s i t,λ_ e=>nomatch e⟩
 | ref p =>
  cases r
  rcases ty with ⟨rfl,xs,hq⟩ | ⟨rfl,o,hk,hc,hd⟩ | ⟨rfl,hk⟩ | ⟨rfl,S,n,hk⟩
  ·obtain ⟨its,_,pl,_⟩:=I.list hq
   refine ⟨pl.isList.typeIs,λa e=>?_⟩
   cases e
   obtain ⟨o,n,e,c,hd,_⟩:=pl
   exact ⟨o,e,hd⟩
  ·refine ⟨⟨o,I.kIn p o hk,hc⟩,λa e=>?_⟩
   cases e
   exact ⟨o,I.kIn _ o hk,hd⟩
  ·have z:∃ o,s.heap.get? p=some o/\o.ExactDict:=by
    rcases hk with ⟨kvs,hk⟩ | ⟨kvs,hk⟩
    ·obtain ⟨_,_,_,_,o,_,_,e,ex,_⟩:=I.hok p _ hk
     exact ⟨o,e,ex⟩
    ·obtain ⟨_,_,_,_,o,_,_,e,ex,_⟩:=I.hok p _ hk
     exact ⟨o,e,ex⟩
   obtain ⟨o,e,ex⟩:=z
   refine ⟨⟨o,e,ex.1⟩,λa e2=>?_⟩
   cases e2
   exact ⟨o,e,ex.2.1⟩
  ·obtain ⟨o,_,_,_,e,ex,_⟩:=I.hok p _ hk
   refine ⟨⟨o,e,ex.1⟩,λa e2=>?_⟩
   cases e2
   exact ⟨o,e,ex.2.1⟩
 | _=>exact False.elim ty
def tBM0 (K:PySem.W.Frag) (T:String) (r:V->List V->Hp->VK->Prop) (to:TE):TE:=λσ H Q=>to σ H λx H1=>tyV K T x H1/\r x [] H1 Q
def tBM (K:PySem.W.Frag) (T:String) (r:V->List V->Hp->VK->Prop) (to:TE) (t:TA):TE:=λσ H Q=>to σ H λx H1=>tyV K T x H1/\t σ H1 λxs H2=>r x xs H2 Q
variable {o e:Expr}{es:List Expr}{to:TE}{t:TA}{name:Str}{apos cpos:Pos}{T id:String}{r:V->List V->Hp->VK->Prop}
theorem q5' (pa:PlainAttrs T) (slot:Slot T name id) (hty:typeOf (.builtin id)=pure (.type "method_descriptor")) (hm:MtR X id r) (ho:PE X o to)
  (hbase:attributeBase o name X.env (eval o X.env)=eval o X.env:=by rfl) (hline:(apos.endLine == cpos.line)=true:=by rfl):PE X (.Call (.Attribute o name apos) [] [] cpos) (tBM0 X.K T r to):=by
 intro pins s σ H Q I h
 refine wpAny_Call_method0_late hbase hline (thn (ho pins s σ H _ I h) λv s1 ⟨x,H1,I1,r1,ty,q1⟩=>?_)
 obtain ⟨h1,h2⟩:=mL' I1 r1 ty
 exact ⟨T,id,pa,slot,hty,h1,h2,Calls.callWith_builtin rfl (PySem.evalArgs_none (hm pins s1 σ H1 x [] v [] Q I1 r1 .nil q1))⟩
theorem lK' (pa:PlainAttrs T) (slot:Slot T name id) (hty:typeOf (.builtin id)=pure (.type "method_descriptor")) (hm:MtR X id r) (ho:PE X o to) (ha:PA X (e::es) t)
  (hbase:attributeBase o name X.env (eval o X.env)=eval o X.env:=by rfl)
  (hfew:((backTo cpos (starEach (e::es) X.env)).all (λx=>!x.1)&&(backToKw cpos (keywordEach [] X.env)).all (λx=>x.1.isSome)
   &&decide ((e::es).length+([]:List Keyword).length+(if ([]:List Keyword).isEmpty then 0 else 1) < 30))=true:=by rfl)
  (hline:(apos.endLine == cpos.line)=true:=by rfl) (hs:starEach (e::es) X.env=(false,eval e X.env)::starEach es X.env:=by rfl) (hplain:(backTo cpos (starEach es X.env)).any (·.1)=false:=by rfl) :
  PE X (.Call (.Attribute o name apos) (e::es) [] cpos) (tBM X.K T r to t):=by
 intro pins s σ H Q I h
 refine wpAny_Call_method_late hbase hfew hline rfl (thn (ho pins s σ H _ I h) λv s1 ⟨x,H1,I1,r1,ty,q1⟩=>?_)
 obtain ⟨h1,h2⟩:=mL' I1 r1 ty
 refine ⟨T,id,pa,slot,hty,h1,h2,?_⟩
 have hA:=ha cpos pins s1 σ H1 _ I1 q1
 rw [hs] at hA ⊢
 refine Calls.callWith_builtin (by show (false||(backTo cpos (starEach es X.env)).any (·.1))=false;rw [hplain]<;>rfl) (Calls.evalArgs_plain ?_)
 exact thn hA λus s2 ⟨vs,H2,I2,r2,q2⟩=>hm pins s2 σ H2 x vs v us Q I2 r1 r2 q2
end
end L2
namespace L2
open PySem PySem.Spec PyProof.Rows
def MtM (X:Cx) (id:String) (r:V->List V->Hp->VK->Prop):Prop :=
 ∀ (pins:List (Addr×Obj)) (s:Shared) (σ:St) (H:Hp) (x:V) (xs:List V) (v:Value) (us:List Value) (Q:VK),Inv X pins σ H s->RelV x v->Vals xs us->r x xs H Q →
  wpAny (model X.prog X.w) X.A (call (.builtin id) (v::us)) (EP X pins σ Q) X.xe s
theorem Vals.one:∀ {x:V}{us:List Value},Vals [x] us->∃ u,us=[u]/\RelV x u
 | _,_,.cons r .nil=>⟨_,rfl,r⟩
theorem Vals.two:∀ {x y:V}{us:List Value},Vals [x,y] us->∃ u v,us=[u,v]/\RelV x u/\RelV y v
 | _,_,_,.cons r (.cons q .nil)=>⟨_,_,rfl,r,q⟩
theorem Vals.zero:∀ {us:List Value},Vals [] us->us=[]
 | _,.nil=>rfl
theorem Vals.dropLast {xs:List V}{us:List Value} (h:Vals xs us):Vals xs.dropLast us.dropLast:=by
 induction h with
 | nil=>exact .nil
 | cons r t ih =>
  cases t with
  | nil=>exact .nil
  | cons q t'=>exact .cons r ih
theorem lL' {α:Type} (l:List α):l.eraseIdx (l.length - 1)=l.dropLast:=by
 induction l with
 | nil=>rfl
 | cons a r ih =>
  cases r with
  | nil=>rfl
  | cons b r =>
   have e:(a::b::r).length - 1=((b::r).length - 1)+1:=by
    have h1:(a::b::r).length=r.length+2:=rfl
    have h2:(b::r).length=r.length+1:=rfl
    omega
   rw [e,List.eraseIdx_cons_succ,ih]
   all_goals rfl
section
variable {X:Cx}{pins:List (Addr×Obj)}{σ:St}{H:Hp}{s:Shared}{l b:Addr}{xs ys zs:List V}
theorem Inv.lset {its its':List Value}{n:Nat}{f:Array Value->Array Value}{t':Nat} (I:Inv X pins σ H s) (hH:H l=some (.lst xs))
  (e:s.heap.get? l=some { cls:=.type "list", data:=.seq its.toArray n }) (hf:f its.toArray=its'.toArray) (hv:Vals ys its') (hz:ys.length<=sizeLine) :
  Inv X pins σ (upd H l (.lst ys)) { s with heap:=s.heap.update l (Obj.mapSeq f),toks:=t' }:=by
 have q:=PySem.IsL.update e f
 rw [hf] at q
 refine I.write (x:=l) (e:=l) (by rw [hH];exact trivial) (.inl rfl) (λb' u hb hu=>(Heap.get?_update_other s.heap (Obj.mapSeq f) (Ne.symm hb)).trans hu) ⟨_,q⟩ ?_
 exact ⟨hz,its',_,hv,q⟩
theorem Inv.lnew {its:List Value}{t':Nat} (I:Inv X pins σ H s) (hv:Vals ys its) (hz:ys.length<=sizeLine) :
  Inv X pins σ (upd H s.heap.objs.size (.lst ys)) { s with heap:=s.heap.push { cls:=.type "list", data:=.seq its.toArray },toks:=t' } :=
 I.laid (λ_ _ q=>Heap.get?_push_of_some _ q) (Nat.le_refl _) ⟨hz,its,0,hv,Heap.get?_push_size _ rfl⟩
theorem Inv.fresh (I:Inv X pins σ H s):H s.heap.objs.size=none:=I.hok.fresh (Nat.le_refl _)
theorem Inv.lstM (I:Inv X pins σ H s) (hH:H l=some (.lst xs)):xs.length<=sizeLine/\∃ (its:List Value) (n:Nat),Vals xs its/\xs.length=its.length/\s.heap.get? l=some { cls:=.type "list", data:=.seq its.toArray n }:=by
 obtain ⟨z,its,n,r,e⟩:=I.hok l _ hH
 exact ⟨z,its,n,r,r.length,e⟩
end
section
variable {X:Cx}
def rAppend:V->List V->Hp->VK->Prop:=λx vs H Q=>∃ l xs y,x=.ref l/\vs=[y]/\H l=some (.lst xs)/\xs.length < sizeLine/\Q .non (upd H l (.lst (xs++[y])))
theorem ij':MtM X "list.append" rAppend:=by
 intro pins s σ H x vs v us Q I rx rv h
 obtain ⟨l,xs,y,rfl,rfl,hH,hz,q⟩:=h
 cases rx
 obtain ⟨u,rfl,ru⟩:=rv.one
 obtain ⟨z,its,n,r,hl,e⟩:=I.lstM hH
 refine call_meets F.slot_list_append ⟨_,e,rfl⟩ F.entry_list_append (F.args_list_append_2 _ _) (PySem.list_append l its.toArray n u (by rw [List.size_toArray];omega)) ⟨e,?_⟩
 refine ⟨.non,_,I.lset (its':=its++[u]) hH e (by simp) (r.append (.cons ru .nil)) ?_,rfl,q⟩
 rw [List.length_append,List.length_singleton]
 omega
def rPop:V->List V->Hp->VK->Prop:=λx vs H Q=>∃ l xs y,x=.ref l/\vs=[]/\H l=some (.lst xs)/\xs[xs.length - 1]?=some y/\Q y (upd H l (.lst xs.dropLast))
theorem q6':MtM X "list.pop" rPop:=by
 intro pins s σ H x vs v us Q I rx rv h
 obtain ⟨l,xs,y,rfl,rfl,hH,hy,q⟩:=h
 cases rx
 have hus:=rv.zero
 subst hus
 obtain ⟨z,its,n,r,hl,e⟩:=I.lstM hH
 obtain ⟨u,hu,ru⟩:=r.get hy
 have hy':its.toArray[its.toArray.size - 1]?=some u:=by
  show its.toArray[its.length - 1]?=some u
  rw [← Array.getElem?_toList,← hl]
  exact hu
 refine call_meets F.slot_list_pop ⟨_,e,rfl⟩ F.entry_list_pop (F.args_list_pop_1 _) (MeetsSeq.list_pop_last l its.toArray n u hy' (by rw [List.size_toArray];omega)) ⟨e,?_⟩
 refine ⟨y,_,I.lset (its':=its.dropLast) hH e ?_ r.dropLast ?_,ru,q⟩
 ·show its.toArray.eraseIdxIfInBounds (its.toArray.size - 1)=its.dropLast.toArray
  rw [List.size_toArray,List.eraseIdxIfInBounds_toArray,lL']
 ·rw [List.length_dropLast]
  omega
end
section
variable {prog:Program}{w:World}{A:Around}{E:Value->Shared->Prop}{s:Shared}
end
section
variable {X:Cx}
end
end L2
namespace Att
open PySem PySem.W PySem.Calls PyProof.Rows
theorem gD' {P:Params}{h:Heap}:∀ (ns:List Int) (vs:List Value),WellAll P h vs (ns.map WData.int)->IntsAre vs ns:=by
 intro ns
 induction ns with
 | nil =>
  intro vs w
  rw [List.map_nil] at w
  cases w
  exact .nil
 | cons n ns ih =>
  intro vs w
  rw [List.map_cons] at w
  cases w with
  | cons a b =>
   cases a
   exact .cons _ _ (ih _ b)
theorem mM' {l:OpenLaw}{n:Nat} (hn:l.most=some n){P:Params}{h:Heap}{args:List WData}{vals:List Value}
  (hpre:l.row.toRowW.claim.pre args=true) (hwl:WellAll P h vals args) :
  ∃ a vs ns,vals=[Value.ref a]/\args=[WData.list (ns.map WData.int)]/\h.get? a=some { cls:=.type "list", data:=.seq vs.toArray }/\IntsAre vs ns/\ns.length<=n:=by
 have hsh:WShape.hasAll [] args [.list .int]=true:=(pre_splitW hpre).1
 have hc:l.pre.holds [] { args:=args }=true:=(pre_splitW hpre).2
 obtain ⟨d,r,rfl,h1,h2⟩:=hasAllW_cons hsh
 obtain rfl:=hasAllW_nil h2
 obtain ⟨xs,rfl,h3⟩:=hasW_list h1
 obtain ⟨ns,rfl⟩:=items_int h3
 have hlen:ns.length<=n:=by
  unfold OpenLaw.pre at hc
  have h4:(WTm.not (.lt (.lit (.int (n:Int))) (.len (.arg 0)))).holds [] { args:=[.list (ns.map .int)] }=true:=by
   have h4:=(holds_andW hc).1
   rw [hn] at h4
   exact h4
  have h5:=condW_of h4 (w_not (w_lt w_lit (w_len_list (w_arg rfl))))
  rw [List.length_map] at h5
  refine Nat.le_of_not_lt λq=>?_
  have q':(n:Int) < ((ns.length:Nat):Int):=by omega
  first
   | (rw [decide_eq_true q'] at h5;exact absurd h5 (by decide))
   | (simp at h5;omega)
 cases hwl with
 | cons w1 w2 =>
  cases w2
  cases w1 with
  | list ho hall=>exact ⟨_,_,ns,rfl,rfl,ho,gD' ns _ hall,hlen⟩
theorem mN' (l:OpenLaw) (args:List WData):l.row.toRowW.claim.post args (.bool true) args=true :=
 postW_of (r:=l.row.toRowW) (X:=(true == true))
  (show WShape.has [] (.bool true) .bool=true by first | rfl | decide | simp [WShape.has,WShape.arms,WShape.armsAll])
  (show (WTm.eq .res (.lit (.bool true))).value [] { args:=args,res:=some (.bool true),after:=args }=some (.bool (true == true)) from w_eq_bool (w_res rfl) w_lit) rfl
theorem rV' {l:OpenLaw}{n:Nat}{q:Program}{loose:List Str}{XP:(Str->Option Value)->Heap->Prop}{YP:World->Heap->Prop}{d:DefRec}
  (hn:l.most=some n) (hdf:d.params.defaults=[])
  (call:∀ (w:World) (s₀ s₁:Shared) (mg mb:Str->Option Value) (fa:Addr) (o:Obj) (pm cd doc:Value) (a:Addr) (vs:List Value) (ns:List Int),
   Ground q loose [] XP w s₀ mg mb s₁.heap->YP w s₁.heap →
   s₁.heap.get? fa=some o->o.data=.func (docDef d.name d.params d.body d.scope pm cd doc)->s₁.heap.CodeRec cd d.name->mg d.name=some (.ref fa) →
   s₁.heap.get? a=some { cls:=.type "list", data:=.seq vs.toArray }->IntsAre vs ns->ns.length<=n->s₁.gens=#[] →
   codeAny (model l.prog w) callerA (.call (.ref fa) ⟨[.ref a],[]⟩) (λr s'=>r=.ok (.ret (.bool true))/\OldK s₁.heap s'.heap/\s'.os=s₁.os/\AllBare s'.gens) s₁) :
  WalkO q loose XP YP l.row.toRowW d [] (λf vs=>PySem.call f vs):=by
 intro w s₀ s₁ mg mb G Y fa o pm cd doc dV kV ho hd hcd hD hmg hg args vals as hpre hlay hrd hwl hlo
 obtain rfl:dV=.none:=Dflts.none hD hdf
 obtain rfl:kV=.none:=Dflts.noKw hD
 obtain ⟨a,vs,ns,rfl,rfl,hobj,hints,hlen⟩:=mM' hn hpre hwl
 refine enter_call (codeAny_mono (call w s₀ s₁ mg mb fa o pm cd doc a vs ns G Y ho (fd_plain hd) hcd hmg hobj hints hlen hg) λr s' hq=>?_)
 obtain ⟨rfl,h2,h3,h4⟩:=hq
 exact ⟨.inl ⟨.bool true,.bool true,[],rfl,λ_=>rfl,.bool true,mN' l _,λ_=>⟨List.Pairwise.nil,λ_ hm=>(nomatch hm)⟩⟩,h2,h3,h4⟩
section
variable {prog:Program}{w:World}{A:Around}{E:Value->Shared->Prop}{s:Shared}{K:Frag}
end
end Att
namespace L2
open PySem PySem.Spec PyProof.Rows
theorem ik':∀ {vs:List Value}{ns:List Int},IntsAre vs ns->Vals (ns.map V.int) vs
 | _,_,.nil=>.nil
 | _,_,.cons n t h=>.cons ⟨t,rfl⟩ (ik' h)
def Only (H:Hp):Prop:=∀ b,H b=none\/∃ o xs,H b=some (.frz o (.lst xs))
end L2
namespace L2
open PySem PySem.Spec PyProof.Rows
end L2
namespace L2
open PySem PySem.Spec PyProof.Rows
def defArgs (s:Stmt):Arguments:=match s with
 | .FunctionDef _ a _ _ _ _ _ _ _ _=>a
 | _=>{ posonlyargs:=[],args:=[],vararg:=none,kwonlyargs:=[],kw_defaults:=[],kwarg:=none,defaults:=[] }
def defBody (s:Stmt):List Stmt:=match s with
 | .FunctionDef _ _ b _ _ _ _ _ _ _=>b
 | _=>[]
def defScope (s:Stmt):Scope:=match s with
 | .FunctionDef _ _ _ _ _ _ sc _ _ _=>sc
 | _=>{ kind:=.function,names:=[],isGenerator:=false,isCoroutine:=false }
abbrev CX0:CXT:=λ_ _ _ _ _ _=>False
abbrev E0:XK:=λ_ _ _=>False
theorem pass0 {X:Cx}:Passes CX0 X E0:=λ_ _ _ _ _ _ _ h=>h.elim
structure Fun (K:PySem.W.Frag) (x qual:Str) (st:Stmt) (f:Addr) (fd:FuncData):Prop where
 ex:∃ (oc:Value) (od:Option Addr) (kV doc pm:Value) (an:Option Addr) (cdv ct:Value) (osl:Array (Option Value)),
  fd=PySem.W.fnOf x qual (defArgs st) (defBody st) (defScope st) .none kV doc pm an cdv ct/\K.lookup f=some ⟨oc,od,.func fd,osl⟩/\PySem.W.codeIn K cdv qual=true
 kp:PySem.W.keepIn K (.ref f)=true
section
variable {P:Program}{w:World}{K:PySem.W.Frag}{mg:Str->Option Value}{base:Heap}
theorem Fun.ok {x qual:Str}{st:Stmt}{f:Addr}{fd:FuncData}{N ps:List Str}{k:Nat}{sp:Sp} (F:Fun K x qual st f fd) (S:FnScope N ps (defScope st)) (len:∀ vs H Q E,sp vs H Q E->vs.length=ps.length)
  (hbody:∀ (cdv:Value) (A:Around) (outer:List Env) (s:Shared) (H:Hp) (vs:List V) (Q:VK) (E:XK),Room k (A.deeper (envOfC qual (defScope st) s.heap.objs.size f cdv))->sp vs H Q E →
   ∃ t,PSs (cxOf CX0 P w K mg base N qual (defScope st) f cdv A outer s H E).nox (defBody st) t/\t { nx:=λ_ H'=>Q .non H',rt:=Q } (start N vs) H):FnOk P w K mg base CX0 (k+1) f fd ps sp:=by
 obtain ⟨oc,od,kV,doc,pm,an,cdv,ct,osl,rfl,lk,hcd⟩:=F.ex
 refine r6' lk hcd S len λA outer s H vs Q E hr hsp=>?_
 obtain ⟨t,h,q⟩:=hbody cdv A outer s H vs Q E hr hsp
 exact ⟨t,h.nox,q⟩
theorem Fun.binds {x qual:Str}{st:Stmt}{f:Addr}{fd:FuncData}{ps:List Str} (F:Fun K x qual st f fd)
  (h:∀ (kV doc pm:Value) (an:Option Addr) (cdv ct:Value) (us:List Value),us.length=ps.length->bindArgs (PySem.W.fnOf x qual (defArgs st) (defBody st) (defScope st) .none kV doc pm an cdv ct) ⟨us,[]⟩=pure (ps.zip us)):Binds K fd ps []:=by
 obtain ⟨oc,od,kV,doc,pm,an,cdv,ct,osl,rfl,lk,hcd⟩:=F.ex
 exact .all (h kV doc pm an cdv ct)
theorem aL' {x qual:Str}{st:Stmt}{f:Addr}{oc:Value}{od an:Option Addr}{osl:Array (Option Value)}{kV doc pm cdv ct:Value} (l:K.lookup f=some ⟨oc,od,.func (PySem.W.fnOf x qual (defArgs st) (defBody st) (defScope st) .none kV doc pm an cdv ct),osl⟩)
  (c:PySem.W.codeIn K cdv qual=true) (k:PySem.W.keepIn K (.ref f)=true):Fun K x qual st f (PySem.W.fnOf x qual (defArgs st) (defBody st) (defScope st) .none kV doc pm an cdv ct):=⟨⟨oc,od,kV,doc,pm,an,cdv,ct,osl,rfl,l,c⟩,k⟩
end
theorem lM' {A:Around}{k:Nat} (hr:Room k A):A.units+1 < cLine:=Nat.lt_of_le_of_lt (Nat.add_le_add_left (by decide:1<=64) _) hr.units
section
variable {X:Cx}
theorem pv (i:Nat){x:Str}{pos:Pos} (hN:X.N[i]?=some x:=by rfl) (hv:Vis X.env.scope x:=by first | exact Or.inl rfl | exact Or.inr (Or.inl rfl) | exact Or.inr (Or.inr rfl)) (hd:(x == ("__debug__":Str))=false:=by decide)
  (hcd:(x == ("__classdict__":Str))=false:=by decide):PE X (.Name x pos) (tVar i):=qC' hN hv hd hcd
end
theorem iteF {A B:Prop} (h:B):if false=true then A else B:=by
 rw [if_neg Bool.false_ne_true]
 exact h
theorem iteT {A B:Prop} (h:A):if true=true then A else B:=by
 rw [if_pos rfl]
 exact h
def Same (H H':Hp):Prop:=∀ b o,H b=some o->H' b=some o
theorem Same.refl (H:Hp):Same H H:=λ_ _ h=>h
theorem Same.trans {H H1 H2:Hp} (a:Same H H1) (b:Same H1 H2):Same H H2:=λc o h=>b c o (a c o h)
theorem Same.free {H H':Hp} (e:Same H H'){l:Addr} (h:H' l=Option.none):H l=Option.none:=by
 cases q:H l with
 | none=>rfl
 | some o =>
  rw [e l o q] at h
  cases h
end L2
namespace L2
open PySem PySem.Spec PyProof.Rows
section
variable {κ:Type} [DecidableEq κ]
def valV (kvs:List (κ×V)) (k:κ):Option V:=(kvs.find? λkv=>decide (kv.1=k)).map (·.2)
def putK (kvs:List (κ×V)) (k:κ) (v:V):List (κ×V) :=
 if (kvs.any λkv=>decide (kv.1=k))=true then kvs.map (λkv=>if kv.1=k then (kv.1,v) else kv) else kvs++[(k,v)]
theorem eO' {p:κ×V}{r:List (κ×V)}{k:κ} (e:p.1=k):valV (p::r) k=some p.2:=by simp [valV,List.find?_cons,e]
theorem eP' {p:κ×V}{r:List (κ×V)}{k:κ} (e:¬ p.1=k):valV (p::r) k=valV r k:=by simp [valV,List.find?_cons,e]
theorem f6' (k:κ):∀ kvs:List (κ×V),(kvs.any λkv=>decide (kv.1=k))=(valV kvs k).isSome
 | []=>rfl
 | p::r=>by
  rw [List.any_cons]
  by_cases e:p.1=k
  ·simp only [eO' e,decide_eq_true e,Bool.true_or,Option.isSome_some]
  ·rw [eP' e,decide_eq_false e,Bool.false_or];exact f6' k r
theorem fX' (kvs:List (κ×V)) (k:κ) (v:V):(putK kvs k v).length<=kvs.length+1:=by
 unfold putK
 split
 ·rw [List.length_map];omega
 ·rw [List.length_append,List.length_cons,List.length_nil];omega
theorem on' {kvs:List (κ×V)}{k:κ} (v:V) (h:valV kvs k=none):putK kvs k v=kvs++[(k,v)]:=by
 unfold putK
 rw [f6',h]
 exact if_neg (by decide)
theorem RelO.isSome_eq {o:Option V}{u:Option Value} (r:RelO o u):o.isSome=u.isSome:=by
 cases o with
 | none=>cases u with
  | none=>rfl
  | some _=>exact (show False from r).elim
 | some _=>cases u with
  | none=>exact (show False from r).elim
  | some _=>rfl
theorem KV.val {kvs:List (κ×V)}{vs:List (κ×Value)} (r:KV kvs vs) (k:κ):RelO (valV kvs k) (valueAt vs k):=by
 unfold KV at r
 induction r with
 | nil=>exact True.intro
 | @cons p q ps qs h t ih =>
  obtain ⟨h1,h2⟩:=h
  by_cases e:p.1=k
  ·have e':q.1=k:=h1.symm.trans e
   have b:valueAt (q::qs) k=some q.2:=by simp [valueAt,List.find?_cons,e']
   rw [eO' e,b];exact h2
  ·have e':¬ q.1=k:=λz=>e (h1.trans z)
   have b:valueAt (q::qs) k=valueAt qs k:=by simp [valueAt,List.find?_cons,e']
   rw [eP' e,b];exact ih
theorem KV.any {kvs:List (κ×V)}{vs:List (κ×Value)} (r:KV kvs vs) (k:κ):(kvs.any λkv=>decide (kv.1=k))=vs.any λkv=>decide (kv.1=k):=by
 unfold KV at r
 induction r with
 | nil=>rfl
 | cons h t ih=>rw [List.any_cons,List.any_cons,ih,h.1]
theorem KV.repl {kvs:List (κ×V)}{vs:List (κ×Value)} (r:KV kvs vs) (k:κ){y:V}{u:Value} (ry:RelV y u) :
  KV (kvs.map λkv=>if kv.1=k then (kv.1,y) else kv) (vs.map λkv=>if kv.1=k then (kv.1,u) else kv):=by
 unfold KV at r ⊢
 induction r with
 | nil=>exact .nil
 | @cons p q ps qs h t ih =>
  rw [List.map_cons,List.map_cons]
  refine .cons ?_ ih
  obtain ⟨h1,h2⟩:=h
  by_cases e:p.1=k
  ·rw [if_pos e,if_pos (h1.symm.trans e)];exact ⟨h1,ry⟩
  ·rw [if_neg e,if_neg (λz=>e (h1.trans z))];exact ⟨h1,h2⟩
theorem KV.put {kvs:List (κ×V)}{vs:List (κ×Value)} (r:KV kvs vs) (k:κ){y:V}{u:Value} (ry:RelV y u):KV (putK kvs k y) (stored vs k u):=by
 unfold putK stored
 rw [r.any k]
 by_cases e:(vs.any λkv=>decide (kv.1=k))=true
 ·rw [if_pos e,if_pos e];exact r.repl k ry
 ·rw [if_neg e,if_neg e];exact Paired.snoc r ⟨rfl,ry⟩
theorem KV.keys {kvs:List (κ×V)}{vs:List (κ×Value)} (r:KV kvs vs):kvs.map (·.1)=vs.map (·.1):=by
 unfold KV at r
 induction r with
 | nil=>rfl
 | cons h t ih=>rw [List.map_cons,List.map_cons,ih,h.1]
theorem KV.length {kvs:List (κ×V)}{vs:List (κ×Value)} (r:KV kvs vs):kvs.length=vs.length:=Paired.length r
end
theorem gE' {P:Program}{w:World}{k:Key}{u:Value} (r:RelV (kV k) u):(mixKind P w).is k u=true:=by
 cases k with
 | inl i=>obtain ⟨t,e⟩:=(show ∃ t,u=Value.int i t from r);subst e;exact kp' P w i t
 | inr x=>obtain ⟨t,e⟩:=(show ∃ t,u=Value.str x t from r);subst e;exact kq' P w x t
theorem il' {P:Program}{w:World}:∀ {ks:List Key}{us:List Value},Vals (ks.map kV) us->ItemsAre (mixKind P w) ks us
 | [],_,r=>by rw [List.map_nil] at r;cases r;exact .nil
 | k::ks,_,r=>by
  rw [List.map_cons] at r
  cases r with
  | cons h t=>exact .cons (gE' h) (il' t)
abbrev KT (H:Hp):List (List Key×V)->List (List Key×Addr×Value)->Prop:=Paired λp q=>p.1=q.1/\H q.2.1=some (.tup (p.1.map kV))/\RelV p.2 q.2.2
theorem KT.val {H:Hp}{kvs:List (List Key×V)}{xs:List (List Key×Addr×Value)} (r:KT H kvs xs) (k:List Key):RelO (valV kvs k) ((atKey xs k).map (·.2)):=by
 induction r with
 | nil=>exact True.intro
 | @cons p q ps qs h t ih =>
  obtain ⟨h1,_,h2⟩:=h
  by_cases e:p.1=k
  ·have e':q.1=k:=h1.symm.trans e
   have b:atKey (q::qs) k=some q.2:=by simp [atKey,List.find?_cons,e']
   rw [eO' e,b];exact h2
  ·have e':¬ q.1=k:=λz=>e (h1.trans z)
   have b:atKey (q::qs) k=atKey qs k:=by simp [atKey,List.find?_cons,e']
   rw [eP' e,b];exact ih
theorem KT.repl {H:Hp}{kvs:List (List Key×V)}{xs:List (List Key×Addr×Value)} (r:KT H kvs xs) (k:List Key){y:V}{u:Value} (ry:RelV y u) :
  KT H (kvs.map λkv=>if kv.1=k then (kv.1,y) else kv) (xs.map (putAt k u)):=by
 induction r with
 | nil=>exact .nil
 | @cons p q ps qs h t ih =>
  rw [List.map_cons,List.map_cons]
  refine .cons ?_ ih
  obtain ⟨h1,h2,h3⟩:=h
  unfold putAt
  by_cases e:p.1=k
  ·rw [if_pos e,if_pos (h1.symm.trans e)];exact ⟨h1,h2,ry⟩
  ·rw [if_neg e,if_neg (λz=>e (h1.trans z))];exact ⟨h1,h2,h3⟩
theorem KT.put {H:Hp}{kvs:List (List Key×V)}{xs:List (List Key×Addr×Value)} (r:KT H kvs xs) (k:List Key){b:Addr}{y:V}{u:Value} (hb:H b=some (.tup (k.map kV))) (ry:RelV y u) :
  KT H (putK kvs k y) (storedH xs k b u):=by
 have e:(kvs.any λkv=>decide (kv.1=k))=(atKey xs k).isSome:=by
  rw [f6',(r.val k).isSome_eq,Option.isSome_map]
 unfold putK storedH
 rw [e]
 by_cases q:(atKey xs k).isSome=true
 ·rw [if_pos q,if_pos q];exact r.repl k ry
 ·rw [if_neg q,if_neg q];exact Paired.snoc r ⟨rfl,hb,ry⟩
theorem KT.keeps {H H':Hp}{kvs:List (List Key×V)}{xs:List (List Key×Addr×Value)} (r:KT H kvs xs) (ht:∀ b ys,H b=some (.tup ys)->H' b=some (.tup ys)):KT H' kvs xs :=
 Paired.mapP r λ_ _ z=>⟨z.1,ht _ _ z.2.1,z.2.2⟩
section
variable {P:Program}{w:World}{H:Hp}{h:Heap}{a:Addr}
theorem pe' {u:HO} (ok:HOk P w H h) (e:Rd H a u):ObjOk P w H h a u:=e.ok ok
theorem iY' {kvs:List (Key×V)} (ok:HOk P w H h) (e:Rd H a (.dK kvs)):kvs.length<=sizeLine/\(a == sysModules)=false/\∃ vs,KV kvs vs/\h.DictOf (mixKind P w) a vs :=
 show ObjOk P w H h a (.dK kvs) from pe' ok e
theorem iZ' {kvs:List (Key×V)} (ok:HOk P w H h) (e:H a=some (.dK kvs)):kvs.length<=sizeLine/\(a == sysModules)=false/\∃ vs,KV kvs vs/\h.DictOf (mixKind P w) a vs:=iY' ok (.inl e)
theorem gF' {ks:List Key} (ok:HOk P w H h) (e:H a=some (.tup (ks.map kV))):(tupleKind (mixKind P w)).is h ks a:=by
 obtain ⟨_,its,r,o,h1,h2,n,h3⟩:=(show ObjOk P w H h a (.tup (ks.map kV)) from ok a _ e)
 exact ⟨o,its.toArray,n,h1,h2,h3,by simpa using il' r⟩
theorem i0' {kvs:List (List Key×V)} (ok:HOk P w H h) (e:Rd H a (.dT kvs)):kvs.length<=sizeLine/\(a == sysModules)=false ∧
  ∃ xs,KT H kvs xs/\h.DictOfH (tupleKind (mixKind P w)) a xs:=by
 obtain ⟨z,y,xs,r,o,es,ep,h1,h2,h3,h4,h5⟩:=(show ObjOk P w H h a (.dT kvs) from pe' ok e)
 refine ⟨z,y,xs,r,o,es,ep,h1,h2,h3,h4,λx hx=>?_,h5⟩
 have all:∀ {l:List (List Key×V)}{m:List (List Key×Addr×Value)},KT H l m->∀ x∈m,(tupleKind (mixKind P w)).is h x.1 x.2.1:=by
  intro l m q
  induction q with
  | nil=>intro x hx;exact nomatch hx
  | @cons p q ps qs hq t ih =>
   intro x hx
   rcases List.mem_cons.mp hx with e | hx
   ·subst e
    exact gF' ok (by rw [← hq.1];exact hq.2.1)
   ·exact ih x hx
 exact all r x hx
theorem r7' {kvs:List (List Key×V)} (ok:HOk P w H h) (e:H a=some (.dT kvs)):kvs.length<=sizeLine/\(a == sysModules)=false ∧
  ∃ xs,KT H kvs xs/\h.DictOfH (tupleKind (mixKind P w)) a xs:=i0' ok (.inl e)
end
def DGet (H:Hp) (a:Addr) (y:V) (r:Option V):Prop :=
 (∃ kvs k,Rd H a (.dK kvs)/\y=kV k/\r=valV kvs k)\/∃ kvs k b,Rd H a (.dT kvs)/\y=.ref b/\H b=some (.tup (k.map kV))/\r=valV kvs k
def DPut (H:Hp) (a:Addr) (y v:V) (H':Hp):Prop :=
 (∃ kvs k,H a=some (.dK kvs)/\y=kV k/\kvs.length < sizeLine/\H'=upd H a (.dK (putK kvs k v))) ∨
 ∃ kvs k b,H a=some (.dT kvs)/\y=.ref b/\H b=some (.tup (k.map kV))/\kvs.length < sizeLine/\H'=upd H a (.dT (putK kvs k v))
theorem DGet.k {H:Hp}{a:Addr}{kvs:List (Key×V)}{k:Key} (e:H a=some (.dK kvs)):DGet H a (kV k) (valV kvs k):=.inl ⟨kvs,k,.inl e,rfl,rfl⟩
theorem DPut.k {H:Hp}{a:Addr}{kvs:List (Key×V)}{k:Key}{v:V} (e:H a=some (.dK kvs)) (hl:kvs.length < sizeLine):DPut H a (kV k) v (upd H a (.dK (putK kvs k v))):=.inl ⟨kvs,k,e,rfl,hl,rfl⟩
section
variable {X:Cx}{pins:List (Addr×Obj)}{σ:St}{H:Hp}{s:Shared}{a:Addr}{y v:V}{u r:Value}{o:Option V}{A:Around}{E:Value->Shared->Prop}
theorem Inv.big (I:Inv X pins σ H s):sysModules < s.heap.objs.size:=by
 have h:mainGlobals < s.heap.objs.size:=(I.mod.glob.keeps I.bk).lt
 exact Nat.lt_trans (by decide) h
theorem mO' {Q:Value->Shared->Prop} (hu:A.units+1 < cLine) (I:Inv X pins σ H s) (g:DGet H a y (some v)) (ry:RelV y u) (h:∀ w' s',Inv X pins σ H s'->RelV v w'->Q w' s') :
  wpAny (model X.prog X.w) A (getItem (.ref a) u) Q E s:=by
 rcases g with ⟨kvs,k,e,ey,l⟩ | ⟨kvs,k,b,e,ey,eb,l⟩
 ·subst ey
  obtain ⟨z,hd,vs,rel,dd⟩:=iY' I.hok e
  obtain ⟨w',hw,rw'⟩:=RelO.some_of (v:=v) (o:=valueAt vs k) (by rw [l];exact rel.val k)
  exact wpAny_getItem_of (gE' ry) dd.mapOf hw (h w' _ (I.tok _) rw')
 ·subst ey
  cases (show u=Value.ref b from ry)
  obtain ⟨z,hd,xs,rel,dd⟩:=i0' I.hok e
  obtain ⟨w',hw,rw'⟩:=RelO.some_of (v:=v) (o:=(atKey xs k).map (·.2)) (by rw [l];exact rel.val k)
  obtain ⟨p,hp,hp2⟩:=Option.map_eq_some_iff.mp hw
  refine wpAny_getItem_heap (tupleKind_room_in1 hu) (gF' I.hok eb) dd hp ?_
  rw [hp2]
  exact h w' _ (I.tok _) rw'
theorem pF' {Q:Value->Shared->Prop} (hu:A.units+1 < cLine) (I:Inv X pins σ H s) (g:DGet H a y o) (ry:RelV y u) (h:∀ s',Inv X pins σ H s'->Q (.bool (!o.isSome)) s') :
  wpAny (model X.prog X.w) A (compareOp .NotIn u (.ref a)) Q E s:=by
 rcases g with ⟨kvs,k,e,ey,l⟩ | ⟨kvs,k,b,e,ey,eb,l⟩
 ·subst ey
  obtain ⟨z,hd,vs,rel,dd⟩:=iY' I.hok e
  refine wpAny_notIn_of (gE' ry) hd dd.mapOf ?_
  rw [← (rel.val k).isSome_eq,← l]
  exact h _ (I.tok _)
 ·subst ey
  cases (show u=Value.ref b from ry)
  obtain ⟨z,hd,xs,rel,dd⟩:=i0' I.hok e
  refine wpAny_notIn_heap (tupleKind_room_in1 hu) (gF' I.hok eb) hd dd ?_
  have q:=(rel.val k).isSome_eq
  rw [Option.isSome_map] at q
  rw [← q,← l]
  exact h _ (I.tok _)
theorem hF' {h':Heap}{t':Nat}{ob:HO} (I:Inv X pins σ H s) (mu:Mut (H a)) (hs:Heap.SameBut a s.heap h') (he:∃ q,h'.get? a=some q) (new:ObjOk X.prog X.w (upd H a ob) h' a ob) :
  Inv X pins σ (upd H a ob) { s with heap:=h',toks:=t' } :=
 I.write (x:=a) (e:=a) mu (.inl rfl) (λb q hb z=>(hs.2 b hb).trans z) he new
theorem mP' {P:Program}{w:World}{H':Hp}{h':Heap}{kvs:List (Key×V)}{vs:List (Key×Value)} (z:kvs.length<=sizeLine) (hd:(a == sysModules)=false) (rel:KV kvs vs) (dd:h'.DictOf (mixKind P w) a vs) :
  ObjOk P w H' h' a (.dK kvs):=⟨z,hd,vs,rel,dd⟩
theorem mQ' {H':Hp}{Q:Unit->Shared->Prop} (hu:A.units+1 < cLine) (I:Inv X pins σ H s) (g:DPut H a y v H') (ry:RelV y u) (rv:RelV v r) (h:∀ s',Inv X pins σ H' s'->Q () s') :
  wpAny (model X.prog X.w) A (setItem (.ref a) u r) Q E s:=by
 rcases g with ⟨kvs,k,e,ey,l,eH⟩ | ⟨kvs,k,b,e,ey,eb,l,eH⟩
 ·subst ey eH
  obtain ⟨z,hd,vs,rel,dd⟩:=iZ' I.hok e
  have hz:vs.length<=sizeLine:=by rw [← rel.length];exact z
  have hl:(putK kvs k v).length<=sizeLine:=by have:=fX' kvs k v;omega
  refine wpAny_setItem_pairs (hsz:=hz) (gE' ry) dd λh' dd' hs=>h _ ?_
  have he:∃ q,h'.get? a=some q:=let ⟨q,_,_,hq,_⟩:=dd';⟨q,hq⟩
  exact hF' I (by rw [e];exact True.intro) hs he (mP' hl hd (rel.put k rv) dd')
 ·subst ey eH
  cases (show u=Value.ref b from ry)
  obtain ⟨z,hd,xs,rel,dd⟩:=r7' I.hok e
  have hz:xs.length<=sizeLine:=by rw [← Paired.length rel];exact z
  have hl:(putK kvs k v).length<=sizeLine:=by have:=fX' kvs k v;omega
  refine wpAny_setItem_heap (hsz:=hz) (tupleKind_room_in1 hu) (gF' I.hok eb) dd λh' dd' hs=>h _ ?_
  obtain ⟨q,es,ep,hq,h2,h3,h4,_,h5⟩:=dd'
  refine hF' I (by rw [e];exact True.intro) hs ⟨q,hq⟩ ⟨hl,hd,_,(rel.put k eb rv).keeps λc ys ec=>?_,q,es,ep,hq,h2,h3,h4,h5⟩
  rw [aj' (rX' ec e (λz=>nomatch z))]
  exact ec
end
section
variable {X:Cx}{pins:List (Addr×Obj)}{σ:St}{H:Hp}{s:Shared}{a:Addr}{kvs:List (Key×V)}{k:Key}{u:Value}{A:Around}{E:Value->Shared->Prop}
end
def NoSl (i:Expr):Prop:=∀ ov iv,subscripted i false ov iv=operate [ov,iv] (getItem ov iv)
theorem pG' {prog:Program}{w:World}{A:Around}{E:Value->Shared->Prop}{s:Shared}{env:Env}{value slice:Expr}{pos:Pos}{T id:String}{Q:Value->Shared->Prop}
  (hl:typeLookup (.type T) "__getitem__"=pure (some (.builtin id))) (hs:NoSl slice)
  (h:wpAny (model prog w) A (eval value env) (λo s₁=>wpAny (model prog w) A (eval slice env) (λi s₂=>s₂.TypeIs o T/\wpAny (model prog w) A (getItem o i) Q E s₂) E s₁) E s) :
  wpAny (model prog w) A (eval (.Subscript value slice pos) env) Q E s:=by
 refine Subscript_ (wpAny_mono h (λo s₁ h₁=>wpAny_mono h₁ (λi s₂ h₂=>?_) λ_ _ x=>x) λ_ _ x=>x)
 obtain ⟨hT,h₂⟩:=h₂
 unfold subscriptTail
 refine wpAny_bind ?_
 rw [getitemInPython_of_ne hT.not_modules]
 refine wpAny_bind (wpAny_specialOf hT hl ?_)
 have fin:wpAny (model prog w) A (subscripted slice false o i) (λr s₃=>wpAny (model prog w) A (letTemporaryGo value o r >>= λ_=>pure r) Q E s₃) E s₂:=by
  rw [hs o i]
  exact wpAny_operating (wpAny_mono h₂ (λr s₃ h₃=>wpAny_bind (wpAny_letTemporaryGo (wpAny_pure h₃))) λ_ _ x=>x)
 first
  | exact wpAny_pure (wpAny_bind fin)
  | exact wpAny_bind (wpAny_pure (wpAny_bind fin))
  | exact wpAny_bind fin
theorem kr' {X:Cx}{pins:List (Addr×Obj)}{σ:St}{H:Hp}{s:Shared}{a:Addr}{y:V}{o:Option V} (I:Inv X pins σ H s) (g:DGet H a y o):s.TypeIs (.ref a) "dict":=by
 rcases g with ⟨kvs,k,e,_,_⟩ | ⟨kvs,k,b,e,_,_,_⟩
 ·obtain ⟨_,_,vs,_,dd⟩:=iY' I.hok e
  exact dd.typeIs
 ·obtain ⟨_,_,xs,_,dd⟩:=i0' I.hok e
  exact dd.typeIs
def tDGet (td ty:TE):TE:=λσ H Q=>td σ H λx H1=>ty σ H1 λy H2=>∃ a v,x=.ref a/\DGet H2 a y (some v)/\Q v H2
def tDNotIn (ty td:TE):TE:=λσ H Q=>ty σ H λy H1=>td σ H1 λx H2=>∃ a o,x=.ref a/\DGet H2 a y o/\Q (.bl (!o.isSome)) H2
def sDPut (td ty tv:TE):TS:=λD σ H=>tv σ H λv H1=>td σ H1 λx H2=>ty σ H2 λy H3=>∃ a H4,x=.ref a/\DPut H3 a y v H4/\D.nx σ H4
section
variable {X:Cx}{o i e value:Expr}{pos pos' tpos:Pos}{td ty tv:TE}
theorem pH' (hu:X.A.units+1 < cLine) (ho:PE X o td) (hi:PE X i ty) (hs:NoSl i):PE X (.Subscript o i pos) (tDGet td ty):=by
 intro pins s σ H Q I h
 refine pG' PySem.F.slot_dict_getitem.lookup hs (thn (ho pins s σ H _ I h) λu s1 ⟨x,H1,I1,rx,q1⟩=>thn (hi pins s1 σ H1 _ I1 q1) λiv s2 ⟨y,H2,I2,ry,a,v,ex,g,q2⟩=>?_)
 subst ex
 obtain rfl:u=Value.ref a:=rx
 exact ⟨kr' I2 g,mO' hu I2 g ry λw' s3 I3 rw'=>⟨v,H2,I3,rw',q2⟩⟩
theorem mR' (hu:X.A.units+1 < cLine) (hi:PE X i ty) (ho:PE X o td):PC X .NotIn i o (tDNotIn ty td):=by
 intro pins s σ H Q I h
 refine thn (hi pins s σ H _ I h) λiv s1 ⟨y,H1,I1,ry,q1⟩=>thn (ho pins s1 σ H1 _ I1 q1) λu s2 ⟨x,H2,I2,rx,a,ov,ex,g,q2⟩=>?_
 subst ex
 obtain rfl:u=Value.ref a:=rx
 exact pF' hu I2 g ry λs3 I3=>⟨.bl (!ov.isSome),H2,I3,rfl,q2⟩
theorem pI' (hu:X.A.units+1 < cLine) (ho:PE X o td) (hi:PE X i ty) (hv:PE X value tv) (hs:swapsWith value (some (.Subscript o i pos')) pos.line X.env=pure false) :
  PS X (.Assign [.Subscript o i pos'] value pos) (sDPut td ty tv):=by
 intro pins s σ H D I h
 refine wpAny_Assign_Subscript (thn (hv pins s σ H _ I h) λr s1 ⟨v,H1,I1,rv,q1⟩=>thn (ho pins s1 σ H1 _ I1 q1) λu s2 ⟨x,H2,I2,rx,q2⟩=>thn (hi pins s2 σ H2 _ I2 q2) λiv s3 ⟨y,H3,I3,ry,a,H4,ex,g,q3⟩=>?_) hs
 subst ex
 obtain rfl:u=Value.ref a:=rx
 exact mQ' hu I3 g ry rv λs4 I4=>⟨σ,H4,I4,q3⟩
end
theorem oo' {P:Program}{w:World}{H:Hp} (h:Heap) (hb:sysModules < h.objs.size):ObjOk P w H (h.push { cls:=.type "dict", data:=.dict #[] }) h.objs.size (.dK []) :=
 ⟨Nat.zero_le _,beq_eq_false_iff_ne.mpr (Ne.symm (Nat.ne_of_lt hb)),[],.nil,Heap.DictOf.new h⟩
section
variable {X:Cx}{pos:Pos}
end
structure M1 (X:Cx) (o:Expr) (m:Str) (apos:Pos) (e:Expr) (cpos:Pos):Prop where
 base:attributeBase o m X.env (eval o X.env)=eval o X.env
 few:((backTo cpos (starEach [e] X.env)).all (λx=>!x.1)&&(backToKw cpos (keywordEach [] X.env)).all (λx=>x.1.isSome)
  &&decide (([e]:List Expr).length+([]:List Keyword).length+(if ([]:List Keyword).isEmpty then 0 else 1) < 30))=true
 line:(apos.endLine == cpos.line)=true
 trees:backTo cpos (starEach [e] X.env)=[(false,eval e X.env)]
structure M2 (X:Cx) (o:Expr) (m:Str) (apos:Pos) (e f:Expr) (cpos:Pos):Prop where
 base:attributeBase o m X.env (eval o X.env)=eval o X.env
 few:((backTo cpos (starEach [e,f] X.env)).all (λx=>!x.1)&&(backToKw cpos (keywordEach [] X.env)).all (λx=>x.1.isSome)
  &&decide (([e,f]:List Expr).length+([]:List Keyword).length+(if ([]:List Keyword).isEmpty then 0 else 1) < 30))=true
 line:(apos.endLine == cpos.line)=true
 trees:backTo cpos (starEach [e,f] X.env)=[(false,eval e X.env),(false,eval f X.env)]
section
variable {X:Cx}{pins:List (Addr×Obj)}{σ:St}{H:Hp}{s:Shared}{a:Addr}{y d:V}{u r:Value}{o:Option V}{A:Around}{E:Value->Shared->Prop}
end
section
variable {X:Cx}{o e f:Expr}{apos cpos:Pos}{td ty tx:TE}
end
section
variable {X:Cx}{pins:List (Addr×Obj)}{σ:St}{H:Hp}{s:Shared}{a:Addr}{kvs:List (Key×V)}{A:Around}{E:Value->Shared->Prop}
end
section
variable {X:Cx}{pins:List (Addr×Obj)}{σ:St}{H:Hp}{s:Shared}{a:Addr}{y:V}{u:Value}{A:Around}{E:Value->Shared->Prop}
end
end L2
namespace L2
open PySem PySem.Spec PyProof.Rows
section
variable {κ:Type} [DecidableEq κ]
end
end L2
set_option maxHeartbeats 4000000
namespace DL
open PySem PySem.Spec PyProof.Rows L2
inductive D where
 | non | bl (b:Bool) | int (i:Int) | str (x:Str) | tup (xs:List D) | lst (xs:List D)
def RdK (K:PySem.W.Frag) (I:Hp) (a:Addr) (xs:List V):Prop:=Rd I a (.lst xs)\/∃ (its:List Value) (n:Nat),K.lookup a=some { cls:=.type "list", data:=.seq its.toArray n }/\Vals xs its/\its.length<=sizeLine
theorem RdK.of {K:PySem.W.Frag}{I:Hp}{a:Addr}{xs:List V} (h:I a=some (.lst xs)):RdK K I a xs:=.inl (.inl h)
theorem RdK.sq {K:PySem.W.Frag}{I:Hp}{a:Addr}{xs:List V} (h:RdK K I a xs):SqL K I a xs:=by
 rcases h with h | ⟨its,n,h1,h2,h3⟩
 ·exact .inl h
 ·exact .inr ⟨_,its.toArray,n,h1,rfl,rfl,rfl,by simpa using h3,by simpa using h2⟩
mutual
def Is (K:PySem.W.Frag) (I:Hp):D->V->Prop
 | .non,v=>v=.non
 | .bl b,v=>v=.bl b
 | .int i,v=>v=.int i
 | .str x,v=>v=.str x
 | .tup ds,v=>∃ a xs,v=.ref a/\SqT K I a xs/\IsA K I ds xs
 | .lst ds,v=>∃ a xs,v=.ref a/\RdK K I a xs/\IsA K I ds xs
def IsA (K:PySem.W.Frag) (I:Hp):List D->List V->Prop
 | [],xs=>xs=[]
 | d::ds,xs=>∃ x r,xs=x::r/\Is K I d x/\IsA K I ds r
end
section
variable {K:PySem.W.Frag}{I I' H:Hp}
theorem Same.rd {a:Addr}{o:HO} (e:Same I I') (h:Rd I a o):Rd I' a o:=by
 rcases h with h | ⟨u,h⟩
 ·exact .inl (e _ _ h)
 ·exact .inr ⟨u,e _ _ h⟩
theorem Same.rdK {a:Addr}{xs:List V} (e:Same I I') (h:RdK K I a xs):RdK K I' a xs:=by
 rcases h with h | h
 ·exact .inl (Same.rd e h)
 ·exact .inr h
theorem Same.sqT {a:Addr}{xs:List V} (e:Same I I') (h:SqT K I a xs):SqT K I' a xs:=by
 rcases h with h | h
 ·exact .inl (Same.rd e h)
 ·exact .inr h
mutual
theorem Is.mono (e:Same I I'):∀ {d:D}{v:V},Is K I d v->Is K I' d v
 | .non,_,h=>by rw [Is] at h ⊢;exact h
 | .bl _,_,h=>by rw [Is] at h ⊢;exact h
 | .int _,_,h=>by rw [Is] at h ⊢;exact h
 | .str _,_,h=>by rw [Is] at h ⊢;exact h
 | .tup ds,v,h=>by
  rw [Is] at h ⊢
  obtain ⟨a,xs,e1,e2,e3⟩:=h
  exact ⟨a,xs,e1,Same.sqT e e2,IsA.mono e e3⟩
 | .lst ds,v,h=>by
  rw [Is] at h ⊢
  obtain ⟨a,xs,e1,e2,e3⟩:=h
  exact ⟨a,xs,e1,Same.rdK e e2,IsA.mono e e3⟩
theorem IsA.mono (e:Same I I'):∀ {ds:List D}{xs:List V},IsA K I ds xs->IsA K I' ds xs
 | [],_,h=>by rw [IsA] at h ⊢;exact h
 | d::ds,xs,h=>by
  rw [IsA] at h ⊢
  obtain ⟨x,r,e1,e2,e3⟩:=h
  exact ⟨x,r,e1,Is.mono e e2,IsA.mono e e3⟩
end
theorem IsA.nil:IsA K I [] []:=by rw [IsA]
theorem IsA.cons {d:D}{ds:List D}{x:V}{xs:List V} (h:Is K I d x) (t:IsA K I ds xs):IsA K I (d::ds) (x::xs):=by
 rw [IsA];exact ⟨x,xs,rfl,h,t⟩
theorem IsA.nil_inv {xs:List V} (h:IsA K I [] xs):xs=[]:=by rw [IsA] at h;exact h
theorem IsA.cons_inv {d:D}{ds:List D}{xs:List V} (h:IsA K I (d::ds) xs):∃ x r,xs=x::r/\Is K I d x/\IsA K I ds r:=by rw [IsA] at h;exact h
theorem IsA.length:∀ {ds:List D}{xs:List V},IsA K I ds xs->ds.length=xs.length
 | [],xs,h=>by rw [h.nil_inv]<;>rfl
 | d::ds,xs,h=>by
  obtain ⟨x,r,rfl,_,t⟩:=h.cons_inv
  simp [IsA.length t]
theorem IsA.get:∀ {ds:List D}{xs:List V}{i:Nat}{d:D},IsA K I ds xs->ds[i]?=some d->∃ x,xs[i]?=some x/\Is K I d x
 | [],xs,i,d,h,e=>by simp at e
 | c::ds,xs,0,d,h,e=>by
  obtain ⟨x,r,rfl,hx,t⟩:=h.cons_inv
  simp at e;subst e
  exact ⟨x,rfl,hx⟩
 | c::ds,xs,i+1,d,h,e=>by
  obtain ⟨x,r,rfl,hx,t⟩:=h.cons_inv
  obtain ⟨y,e1,e2⟩:=IsA.get (i:=i) t (by simpa using e)
  exact ⟨y,by simpa using e1,e2⟩
theorem IsA.append:∀ {ds es:List D}{xs ys:List V},IsA K I ds xs->IsA K I es ys->IsA K I (ds++es) (xs++ys)
 | [],es,xs,ys,h,t=>by rw [h.nil_inv];exact t
 | d::ds,es,xs,ys,h,t=>by
  obtain ⟨x,r,rfl,hx,h'⟩:=h.cons_inv
  exact IsA.cons hx (IsA.append h' t)
theorem IsA.take:∀ {ds:List D}{xs:List V} (n:Nat),IsA K I ds xs->IsA K I (ds.take n) (xs.take n)
 | ds,xs,0,h=>by rw [List.take_zero,List.take_zero];exact IsA.nil
 | [],xs,n+1,h=>by rw [h.nil_inv];exact IsA.nil
 | d::ds,xs,n+1,h=>by
  obtain ⟨x,r,rfl,hx,h'⟩:=h.cons_inv
  rw [List.take_succ_cons,List.take_succ_cons]
  exact IsA.cons hx (IsA.take n h')
theorem IsA.drop:∀ {ds:List D}{xs:List V} (n:Nat),IsA K I ds xs->IsA K I (ds.drop n) (xs.drop n)
 | ds,xs,0,h=>by rw [List.drop_zero,List.drop_zero];exact h
 | [],xs,n+1,h=>by rw [h.nil_inv];exact IsA.nil
 | d::ds,xs,n+1,h=>by
  obtain ⟨x,r,rfl,hx,h'⟩:=h.cons_inv
  rw [List.drop_succ_cons,List.drop_succ_cons]
  exact IsA.drop n h'
theorem IsA.set {d:D}{x:V} (q:Is K I d x):∀ {ds:List D}{xs:List V} (n:Nat),IsA K I ds xs->IsA K I (ds.set n d) (xs.set n x)
 | [],xs,n,h=>by rw [h.nil_inv];exact IsA.nil
 | c::ds,xs,0,h=>by
  obtain ⟨y,r,rfl,hx,h'⟩:=h.cons_inv
  exact IsA.cons q h'
 | c::ds,xs,n+1,h=>by
  obtain ⟨y,r,rfl,hx,h'⟩:=h.cons_inv
  exact IsA.cons hx (IsA.set q n h')
theorem IsA.reverse:∀ {ds:List D}{xs:List V},IsA K I ds xs->IsA K I ds.reverse xs.reverse
 | [],xs,h=>by rw [h.nil_inv];exact IsA.nil
 | d::ds,xs,h=>by
  obtain ⟨x,r,rfl,hx,h'⟩:=h.cons_inv
  rw [List.reverse_cons,List.reverse_cons]
  exact IsA.append (IsA.reverse h') (IsA.cons hx IsA.nil)
theorem IsA.one {d:D}{xs:List V} (h:IsA K I [d] xs):∃ x,xs=[x]/\Is K I d x:=by
 obtain ⟨x,r,rfl,hx,t⟩:=h.cons_inv
 rw [t.nil_inv]
 exact ⟨x,rfl,hx⟩
theorem IsA.two {d e:D}{xs:List V} (h:IsA K I [d,e] xs):∃ x y,xs=[x,y]/\Is K I d x/\Is K I e y:=by
 obtain ⟨x,r,rfl,hx,t⟩:=h.cons_inv
 obtain ⟨y,rfl,hy⟩:=t.one
 exact ⟨x,y,rfl,hx,hy⟩
theorem am' {i:Int}{v:V} (h:Is K I (.int i) v):v=.int i:=by rw [Is] at h;exact h
theorem a3' {i:Bool}{v:V} (h:Is K I (.bl i) v):v=.bl i:=by rw [Is] at h;exact h
theorem bA' {i:Str}{v:V} (h:Is K I (.str i) v):v=.str i:=by rw [Is] at h;exact h
theorem bB' {v:V} (h:Is K I .non v):v=.non:=by rw [Is] at h;exact h
theorem as' {ds:List D}{v:V} (h:Is K I (.tup ds) v):∃ a xs,v=.ref a/\SqT K I a xs/\IsA K I ds xs:=by rw [Is] at h;exact h
theorem aB' {ds:List D}{v:V} (h:Is K I (.lst ds) v):∃ a xs,v=.ref a/\RdK K I a xs/\IsA K I ds xs:=by rw [Is] at h;exact h
theorem Is.int (i:Int):Is K I (.int i) (.int i):=by rw [Is]
theorem Is.bl (i:Bool):Is K I (.bl i) (.bl i):=by rw [Is]
theorem Is.str (i:Str):Is K I (.str i) (.str i):=by rw [Is]
theorem Is.non:Is K I .non .non:=by rw [Is]
theorem Is.tup {ds:List D}{a:Addr}{xs:List V} (h:SqT K I a xs) (t:IsA K I ds xs):Is K I (.tup ds) (.ref a):=by rw [Is];exact ⟨a,xs,rfl,h,t⟩
theorem Is.lst {ds:List D}{a:Addr}{xs:List V} (h:RdK K I a xs) (t:IsA K I ds xs):Is K I (.lst ds) (.ref a):=by rw [Is];exact ⟨a,xs,rfl,h,t⟩
end
inductive R where
 | val (d:D) | own (ds:List D) | bor (ds:List D) | fro (ds:List D) | dic (kvs:List (Int×D))
def R.mut:R->Bool
 | .val _=>false
 | .own _=>true
 | .bor _=>true
 | .fro _=>false
 | .dic _=>false
def R.ptr:R->Bool
 | .val _=>false
 | .own _=>true
 | .bor _=>true
 | .fro _=>false
 | .dic _=>true
abbrev Gm:=List (Option R)
def Mt (K:PySem.W.Frag) (G I H:Hp) (ds:List D) (v:V):Prop:=∃ p xs,v=.ref p/\H p=some (.lst xs)/\I p=none/\G p=none/\IsA K I ds xs
def IsK (K:PySem.W.Frag) (I:Hp) (kvs:List (Int×D)) (xs:List (Key×V)):Prop:=xs.map (·.1)=kvs.map (λq=>Sum.inl q.1)/\IsA K I (kvs.map (·.2)) (xs.map (·.2))
theorem IsK.mono {K:PySem.W.Frag}{I I':Hp}{kvs:List (Int×D)}{xs:List (Key×V)} (e:Same I I') (h:IsK K I kvs xs):IsK K I' kvs xs:=⟨h.1,h.2.mono e⟩
def MtK (K:PySem.W.Frag) (G I H:Hp) (kvs:List (Int×D)) (v:V):Prop:=∃ p xs,v=.ref p/\H p=some (.dK xs)/\I p=none/\G p=none/\IsK K I kvs xs
def SlotOk (K:PySem.W.Frag) (G I H:Hp):R->V->Prop
 | .val d,v=>Is K I d v
 | .own ds,v=>Mt K G I H ds v
 | .bor ds,v=>Mt K G I H ds v
 | .fro ds,v=>∃ p xs,v=.ref p/\I p=some (.lst xs)/\G p=none/\IsA K I ds xs
 | .dic kvs,v=>MtK K G I H kvs v
theorem SlotOk.mt {K:PySem.W.Frag}{G I H:Hp}{r:R}{v:V} (h:SlotOk K G I H r v) (m:r.ptr=true):∃ p xs,v=.ref p/\H p=some xs/\I p=none/\G p=none:=by
 cases r with
 | val d=>cases m
 | own ds=>obtain ⟨p,xs,e1,e2,e3,e4,_⟩:=h;exact ⟨p,_,e1,e2,e3,e4⟩
 | bor ds=>obtain ⟨p,xs,e1,e2,e3,e4,_⟩:=h;exact ⟨p,_,e1,e2,e3,e4⟩
 | fro ds=>cases m
 | dic ds=>obtain ⟨p,xs,e1,e2,e3,e4,_⟩:=h;exact ⟨p,_,e1,e2,e3,e4⟩
structure Rep (K:PySem.W.Frag) (B:Nat->Option (Option V)) (G I H:Hp) (σ:L2.St) (Γ:Gm):Prop where
 iH:Same I H
 gH:Same G H
 len:σ.length=Γ.length
 slot:∀ (i:Nat) (r:R),Γ[i]?=some (some r)->∃ v,σ[i]?=some (some v)/\SlotOk K G I H r v
 dist:∀ (i j:Nat) (r r':R) (v:V),Γ[i]?=some (some r)->Γ[j]?=some (some r')->r.ptr=true->r'.ptr=true->σ[i]?=some (some v)->σ[j]?=some (some v)->i=j
 bor:∀ (i:Nat) (ds:List D),Γ[i]?=some (some (.bor ds))->σ[i]?=B i
structure Grow (G I I':Hp):Prop where
 up:Same I I'
 new:∀ b o,I' b=some o->I b=some o\/G b=none
theorem Grow.refl (G I:Hp):Grow G I I:=⟨Same.refl _,λ_ _ h=>.inl h⟩
theorem Grow.trans {G I I1 I2:Hp} (a:Grow G I I1) (b:Grow G I1 I2):Grow G I I2:=⟨a.up.trans b.up,λc o h=>by
 rcases b.new c o h with h1 | h1
 ·exact a.new c o h1
 ·exact .inr h1⟩
section
variable {K:PySem.W.Frag}{B:Nat->Option (Option V)}{G I I' H H':Hp}{σ:L2.St}{Γ:Gm}
theorem Rep.ext (r:Rep K B G I H σ Γ) (hI:Same I I') (hH:Same H H') (iH:Same I' H') (new:∀ b o,I' b=some o->I b=some o\/H b=none):Rep K B G I' H' σ Γ where
 iH:=iH
 gH:=r.gH.trans hH
 len:=r.len
 slot:=λi q e=>by
  obtain ⟨v,e1,e2⟩:=r.slot i q e
  refine ⟨v,e1,?_⟩
  have mt:∀ ds,Mt K G I H ds v->Mt K G I' H' ds v:=λds h=>by
   obtain ⟨p,xs,h1,h2,h3,h4,h5⟩:=h
   refine ⟨p,xs,h1,hH _ _ h2,?_,h4,h5.mono hI⟩
   cases z:I' p with
   | none=>rfl
   | some o =>
    rcases new p o z with z1 | z1
    ·rw [h3] at z1;cases z1
    ·rw [h2] at z1;cases z1
  cases q with
  | val d=>exact Is.mono hI e2
  | dic ds =>
   obtain ⟨p,xs,h1,h2,h3,h4,h5⟩:=e2
   refine ⟨p,xs,h1,hH _ _ h2,?_,h4,h5.mono hI⟩
   cases z:I' p with
   | none=>rfl
   | some o =>
    rcases new p o z with z1 | z1
    ·rw [h3] at z1;cases z1
    ·rw [h2] at z1;cases z1
  | own ds=>exact mt ds e2
  | bor ds=>exact mt ds e2
  | fro ds=>obtain ⟨p,xs,f1,f2,f3,f4⟩:=e2;exact ⟨p,xs,f1,hI _ _ f2,f3,f4.mono hI⟩
 dist:=r.dist
 bor:=r.bor
theorem aS' {H:Hp}{p:Addr} (h:H p=none) (o:HO):Same H (upd H p o):=λb u q=>by rw [aj' (a6' q h)];exact q
theorem im' {I H:Hp}{p:Addr} (h:Same I H) (o:HO):Same (upd I p o) (upd H p o):=λb u q=>by
 by_cases e:b=p
 ·subst e;rw [av'] at q ⊢;exact q
 ·rw [aj' e] at q ⊢;exact h b u q
theorem Rep.iFree (r:Rep K B G I H σ Γ){p:Addr} (h:H p=none):I p=none:=r.iH.free h
theorem Rep.gFree (r:Rep K B G I H σ Γ){p:Addr} (h:H p=none):G p=none:=r.gH.free h
theorem Rep.alloc (r:Rep K B G I H σ Γ){p:Addr} (h:H p=none) (o:HO):Rep K B G (upd I p o) (upd H p o) σ Γ :=
 r.ext (aS' (r.iFree h) o) (aS' h o) (im' r.iH o) λb u q=>by
  by_cases e:b=p
  ·subst e;exact .inr h
  ·rw [aj' e] at q;exact .inl q
theorem Rep.growAlloc (r:Rep K B G I H σ Γ){p:Addr} (h:H p=none) (o:HO):Grow G I (upd I p o):=⟨aS' (r.iFree h) o,λb u q=>by
 by_cases e:b=p
 ·subst e;exact .inr (r.gFree h)
 ·rw [aj' e] at q;exact .inl q⟩
theorem Rep.fresh (r:Rep K B G I H σ Γ){p:Addr} (h:H p=none) (o:HO):Rep K B G I (upd H p o) σ Γ :=
 r.ext (Same.refl _) (aS' h o) (r.iH.trans (aS' h o)) λb u q=>.inl q
def Apart (σ:L2.St) (Γ:Gm) (p:Addr):Prop:=∀ (j:Nat) (r:R),Γ[j]?=some (some r)->r.ptr=true->σ[j]?≠some (some (.ref p))
theorem Rep.apart (r:Rep K B G I H σ Γ){p:Addr} (h:H p=none):Apart σ Γ p:=λj q e m z=>by
 obtain ⟨v,e1,e2⟩:=r.slot j q e
 obtain ⟨p',xs,h1,h2,_,_⟩:=e2.mt m
 rw [e1] at z
 subst h1
 cases z
 rw [h] at h2;cases h2
theorem Rep.freeze (r:Rep K B G I H σ Γ){p:Addr}{xs:List V} (h:H p=some (.lst xs)) (hi:I p=none) (a:Apart σ Γ p):Rep K B G (upd I p (.lst xs)) H σ Γ where
 iH:=λb u q=>by
  by_cases e:b=p
  ·subst e;rw [av'] at q;cases q;exact h
  ·rw [aj' e] at q;exact r.iH b u q
 gH:=r.gH
 len:=r.len
 slot:=λi q e=>by
  obtain ⟨v,e1,e2⟩:=r.slot i q e
  refine ⟨v,e1,?_⟩
  have up:=aS' hi (.lst xs)
  have mt:q.ptr=true->∀ ds,Mt K G I H ds v->Mt K G (upd I p (.lst xs)) H ds v:=λm ds h=>by
   obtain ⟨p',xs',h1,h2,h3,h4,h5⟩:=h
   refine ⟨p',xs',h1,h2,?_,h4,h5.mono up⟩
   have ne:p'≠p:=λz=>a i q e m (by rw [e1,h1,z])
   rw [aj' ne];exact h3
  cases q with
  | val d=>exact Is.mono up e2
  | dic ds =>
   obtain ⟨p',xs',h1,h2,h3,h4,h5⟩:=e2
   refine ⟨p',xs',h1,h2,?_,h4,h5.mono up⟩
   have ne:p'≠p:=λz=>a i _ e rfl (by rw [e1,h1,z])
   rw [aj' ne];exact h3
  | own ds=>exact mt rfl ds e2
  | bor ds=>exact mt rfl ds e2
  | fro ds=>obtain ⟨p,xs,f1,f2,f3,f4⟩:=e2;exact ⟨p,xs,f1,up _ _ f2,f3,f4.mono up⟩
 dist:=r.dist
 bor:=r.bor
theorem growFreeze {G I:Hp}{p:Addr}{xs:List V} (hi:I p=none) (hg:G p=none):Grow G I (upd I p (.lst xs)):=⟨aS' hi _,λb u q=>by
 by_cases e:b=p
 ·subst e;exact .inr hg
 ·rw [aj' e] at q;exact .inl q⟩
theorem aK' {α:Type}{l:List α}{i j:Nat}{a b:α} (h:(l.set i a)[j]?=some b):(j=i/\b=a/\i < l.length)\/(j≠i/\l[j]?=some b):=by
 by_cases e:j=i
 ·subst e
  by_cases hl:j < l.length
  ·rw [List.getElem?_set_self hl] at h;cases h;exact .inl ⟨rfl,rfl,hl⟩
  ·rw [List.getElem?_eq_none (by rw [List.length_set];omega)] at h;cases h
 ·rw [List.getElem?_set_ne (Ne.symm e)] at h;exact .inr ⟨e,h⟩
theorem Rep.forget (r:Rep K B G I H σ Γ) (i:Nat):Rep K B G I H σ (Γ.set i none) where
 iH:=r.iH
 gH:=r.gH
 len:=by rw [List.length_set];exact r.len
 slot:=λj q e=>by
  rcases aK' e with ⟨_,z,_⟩ | ⟨_,z⟩
  ·cases z
  ·exact r.slot j q z
 dist:=λj k q q' v e e'=>by
  rcases aK' e with ⟨_,z,_⟩ | ⟨_,z⟩
  ·cases z
  rcases aK' e' with ⟨_,z',_⟩ | ⟨_,z'⟩
  ·cases z'
  exact r.dist j k q q' v z z'
 bor:=λj ds e=>by
  rcases aK' e with ⟨_,z,_⟩ | ⟨_,z⟩
  ·cases z
  ·exact r.bor j ds z
theorem Rep.learn (r:Rep K B G I H σ Γ){i:Nat}{q:R}{v:V} (hv:σ[i]?=some (some v)) (ok:SlotOk K G I H q v) (ha:q.ptr=true->∀ p,v=.ref p->∀ (j:Nat) (r:R),j≠i->Γ[j]?=some (some r)->r.ptr=true->σ[j]?≠some (some (.ref p)))
  (hb:∀ ds,q=.bor ds->σ[i]?=B i):Rep K B G I H σ (Γ.set i (some q)) where
 iH:=r.iH
 gH:=r.gH
 len:=by rw [List.length_set];exact r.len
 slot:=λj q' e=>by
  rcases aK' e with ⟨rfl,z,_⟩ | ⟨_,z⟩
  ·cases z;exact ⟨v,hv,ok⟩
  ·exact r.slot j q' z
 dist:=λj k q1 q2 w e e' m1 m2 s1 s2=>by
  rcases aK' e with ⟨rfl,z,_⟩ | ⟨n1,z⟩
  ·cases z
   rcases aK' e' with ⟨rfl,z',_⟩ | ⟨n2,z'⟩
   ·rfl
   ·obtain ⟨p,xs,e1,_⟩:=ok.mt m1
    rw [hv] at s1;cases s1
    exact absurd (e1▸s2) (ha m1 p e1 k q2 n2 z' m2)
  ·rcases aK' e' with ⟨rfl,z',_⟩ | ⟨n2,z'⟩
   ·cases z'
    obtain ⟨p,xs,e1,_⟩:=ok.mt m2
    rw [hv] at s2;cases s2
    exact absurd (e1▸s1) (ha m2 p e1 j q1 n1 z m1)
   ·exact r.dist j k q1 q2 w z z' m1 m2 s1 s2
 bor:=λj ds e=>by
  rcases aK' e with ⟨rfl,z,_⟩ | ⟨_,z⟩
  ·cases z;exact hb ds rfl
  ·exact r.bor j ds z
theorem Rep.store (r:Rep K B G I H σ Γ){i:Nat}{q:R}{v:V} (hi:i < σ.length) (ok:SlotOk K G I H q v) (ha:q.ptr=true->∀ p,v=.ref p->Apart σ Γ p) (hb:∀ ds,q≠.bor ds):Rep K B G I H (σ.set i (some v)) (Γ.set i (some q)):=by
 have r1:Rep K B G I H (σ.set i (some v)) (Γ.set i none):={
  iH:=r.iH,gH:=r.gH,len:=by rw [List.length_set,List.length_set];exact r.len
  slot:=λj q' e=>by
   rcases aK' e with ⟨_,z,_⟩ | ⟨n,z⟩
   ·cases z
   ·rw [List.getElem?_set_ne (Ne.symm n)];exact r.slot j q' z
  dist:=λj k q1 q2 w e e' m1 m2 s1 s2=>by
   rcases aK' e with ⟨_,z,_⟩ | ⟨n1,z⟩
   ·cases z
   rcases aK' e' with ⟨_,z',_⟩ | ⟨n2,z'⟩
   ·cases z'
   rw [List.getElem?_set_ne (Ne.symm n1)] at s1
   rw [List.getElem?_set_ne (Ne.symm n2)] at s2
   exact r.dist j k q1 q2 w z z' m1 m2 s1 s2
  bor:=λj ds e=>by
   rcases aK' e with ⟨_,z,_⟩ | ⟨n,z⟩
   ·cases z
   ·rw [List.getElem?_set_ne (Ne.symm n)];exact r.bor j ds z }
 have r2:=r1.learn (i:=i) (q:=q) (v:=v) (by rw [List.getElem?_set_self hi]) ok (λm p e j q' n z m' s=>by
  rcases aK' z with ⟨_,z',_⟩ | ⟨_,z'⟩
  ·cases z'
  ·rw [List.getElem?_set_ne (Ne.symm n)] at s
   exact ha m p e j q' z' m' s) (λds e=>absurd e (hb ds))
 rw [List.set_set] at r2
 exact r2
theorem Rep.write (r:Rep K B G I H σ Γ){i:Nat}{q q':R}{p:Addr}{xs ys:List V}{ds:List D} (hq:Γ[i]?=some (some q)) (hm:q.ptr=true) (hs:σ[i]?=some (some (.ref p))) (h:H p=some (.lst xs)) (hq':q'=.own ds\/(q'=.bor ds/\∃ es,q=.bor es)) (hd:IsA K I ds ys) :
  Rep K B G I (upd H p (.lst ys)) σ (Γ.set i (some q')):=by
 obtain ⟨v,e1,e2⟩:=r.slot i q hq
 obtain ⟨p',xs',h1,h2,h3,h4⟩:=e2.mt hm
 have hp:p'=p:=by rw [hs] at e1;subst h1;cases e1;rfl
 subst hp
 have other:∀ (j:Nat) (r':R),j≠i->Γ[j]?=some (some r')->r'.ptr=true->σ[j]?≠some (some (.ref p')):=λj r' n z m s=>n (r.dist j i r' q _ z hq m hm s hs)
 have sI:Same I (upd H p' (.lst ys)):=λb u z=>by
  have ne:b≠p':=λe=>by subst e;rw [h3] at z;cases z
  rw [aj' ne];exact r.iH b u z
 have sG:Same G (upd H p' (.lst ys)):=λb u z=>by
  have ne:b≠p':=λe=>by subst e;rw [h4] at z;cases z
  rw [aj' ne];exact r.gH b u z
 have r1:Rep K B G I (upd H p' (.lst ys)) σ (Γ.set i none):={
  iH:=sI,gH:=sG,len:=by rw [List.length_set];exact r.len
  slot:=λj q1 e=>by
   rcases aK' e with ⟨_,z,_⟩ | ⟨n,z⟩
   ·cases z
   obtain ⟨w,e3,e4⟩:=r.slot j q1 z
   refine ⟨w,e3,?_⟩
   have mt:q1.ptr=true->∀ ds,Mt K G I H ds w->Mt K G I (upd H p' (.lst ys)) ds w:=λm ds hh=>by
    obtain ⟨p2,xs2,g1,g2,g3,g4,g5⟩:=hh
    refine ⟨p2,xs2,g1,?_,g3,g4,g5⟩
    have ne:p2≠p':=λz2=>other j q1 n z m (by rw [e3,g1,z2])
    rw [aj' ne];exact g2
   cases q1 with
   | val d=>exact e4
   | dic ds =>
    obtain ⟨p2,xs2,g1,g2,g3,g4,g5⟩:=e4
    refine ⟨p2,xs2,g1,?_,g3,g4,g5⟩
    have ne:p2≠p':=λz2=>other j _ n z rfl (by rw [e3,g1,z2])
    rw [aj' ne];exact g2
   | own ds=>exact mt rfl ds e4
   | bor ds=>exact mt rfl ds e4
   | fro ds=>exact e4
  dist:=(r.forget i).dist
  bor:=(r.forget i).bor }
 have mtok:Mt K G I (upd H p' (.lst ys)) ds (.ref p'):=⟨p',ys,rfl,av',h3,h4,hd⟩
 have r2:=r1.learn (i:=i) (q:=q') (v:=.ref p') hs (by rcases hq' with rfl | ⟨rfl,_⟩<;>exact mtok) (λm p2 e j r' n z m' s=>by
  cases e
  rcases aK' z with ⟨_,z',_⟩ | ⟨_,z'⟩
  ·cases z'
  ·exact other j r' n z' m' s) (λes e=>by
  rcases hq' with rfl | ⟨rfl,es',rfl⟩
  ·cases e
  ·exact r.bor i es' hq)
 rw [List.set_set] at r2
 exact r2
end
end DL
namespace DL
open PySem PySem.Spec PyProof.Rows L2
abbrev M (α:Type):=Gm->Option (α×Gm)
def ret {α:Type} (a:α):M α:=λΓ=>some (a,Γ)
def bnd {α β:Type} (m:M α) (f:α->M β):M β:=λΓ=>match m Γ with
 | some (a,Γ1)=>f a Γ1
 | none=>none
def lft {α:Type} (o:Option α):M α:=λΓ=>match o with
 | some a=>some (a,Γ)
 | none=>none
theorem ae' {α β:Type}{m:M α}{f:α->M β}{Γ:Gm}{b:β}{Γ':Gm} (h:bnd m f Γ=some (b,Γ')):∃ a Γ1,m Γ=some (a,Γ1)/\f a Γ1=some (b,Γ'):=by
 unfold bnd at h
 cases e:m Γ with
 | none=>rw [e] at h;cases h
 | some q=>obtain ⟨a,Γ1⟩:=q;rw [e] at h;exact ⟨a,Γ1,rfl,h⟩
theorem ao' {α:Type}{o:Option α}{Γ Γ':Gm}{a:α} (h:lft o Γ=some (a,Γ')):o=some a/\Γ'=Γ:=by
 unfold lft at h
 cases o with
 | none=>cases h
 | some b=>cases h;exact ⟨rfl,rfl⟩
section
variable (K:PySem.W.Frag) (B:Nat->Option (Option V))
def KD (G I:Hp) (σ:L2.St) (Γ':Gm) (d:D) (Q:VK):Prop:=∀ v H' I',Rep K B G I' H' σ Γ'->Grow G I I'->Is K I' d v->Q v H'
def KO (G I:Hp) (σ:L2.St) (Γ':Gm) (ds:List D) (Q:VK):Prop:=∀ p xs H' I',Rep K B G I' H' σ Γ'->Grow G I I'->H' p=some (.lst xs)->I' p=none->G p=none->Apart σ Γ' p->IsA K I' ds xs->Q (.ref p) H'
def KT (G I:Hp) (σ:L2.St) (Γ':Gm) (b:Bool) (Q:Bool->Hp->Prop):Prop:=∀ H' I',Rep K B G I' H' σ Γ'->Grow G I I'->Q b H'
def KA (G I:Hp) (σ:L2.St) (Γ':Gm) (ds:List D) (Q:List V->Hp->Prop):Prop:=∀ vs H' I',Rep K B G I' H' σ Γ'->Grow G I I'->IsA K I' ds vs->Q vs H'
def tD (g:M D):TE:=λσ H Q=>∃ G I Γ d Γ',Rep K B G I H σ Γ/\g Γ=some (d,Γ')/\KD K B G I σ Γ' d Q
def tO (g:M (List D)):TE:=λσ H Q=>∃ G I Γ ds Γ',Rep K B G I H σ Γ/\g Γ=some (ds,Γ')/\KO K B G I σ Γ' ds Q
def tTD (g:M Bool):TT:=λσ H Q=>∃ G I Γ b Γ',Rep K B G I H σ Γ/\g Γ=some (b,Γ')/\KT K B G I σ Γ' b Q
def tAD (g:M (List D)):TA:=λσ H Q=>∃ G I Γ ds Γ',Rep K B G I H σ Γ/\g Γ=some (ds,Γ')/\KA K B G I σ Γ' ds Q
end
abbrev BB:=Nat->Option (Option V)
def ED (X:Cx) (B:BB) (e:Expr) (g:M D):Prop:=PE X e (tD X.K B g)
def EO (X:Cx) (B:BB) (e:Expr) (g:M (List D)):Prop:=PE X e (tO X.K B g)
def TD (X:Cx) (B:BB) (e:Expr) (g:M Bool):Prop:=PT X e (tTD X.K B g)
def TW (X:Cx) (B:BB) (e:Expr) (g:M Bool):Prop:=PW X e (tTD X.K B g)
def AD (X:Cx) (B:BB) (es:List Expr) (g:M (List D)):Prop:=PA X es (tAD X.K B g)
section
variable {X:Cx}{e:Expr}
theorem PE.imp {t t':TE} (h:PE X e t) (f:∀ σ H Q,t' σ H Q->t σ H Q):PE X e t':=λpins s σ H Q I q=>h pins s σ H Q I (f σ H Q q)
theorem PT.imp {t t':TT} (h:PT X e t) (f:∀ σ H Q,t' σ H Q->t σ H Q):PT X e t':=λpins s σ H Q I q=>h pins s σ H Q I (f σ H Q q)
theorem PW.imp {t t':TT} (h:PW X e t) (f:∀ σ H Q,t' σ H Q->t σ H Q):PW X e t':=λwh pins s σ H Q I q=>h wh pins s σ H Q I (f σ H Q q)
theorem PA.imp {es:List Expr}{t t':TA} (h:PA X es t) (f:∀ σ H Q,t' σ H Q->t σ H Q):PA X es t':=λpos pins s σ H Q I q=>h pos pins s σ H Q I (f σ H Q q)
end
section
variable {K:PySem.W.Frag}{B:BB}{G I I1 I2 H H1:Hp}{σ:L2.St}{Γ Γ1 Γ':Gm}{d:D}{ds:List D}{Q:VK}
theorem KD.now (k:KD K B G I σ Γ d Q) (r:Rep K B G I H σ Γ){v:V} (h:Is K I d v):Q v H:=k v H I r (Grow.refl _ _) h
theorem KD.after (k:KD K B G I σ Γ' d Q) (g:Grow G I I1):KD K B G I1 σ Γ' d Q:=λv H' I' r g' h=>k v H' I' r (g.trans g') h
theorem KO.after (k:KO K B G I σ Γ' ds Q) (g:Grow G I I1):KO K B G I1 σ Γ' ds Q:=λp xs H' I' r g'=>k p xs H' I' r (g.trans g')
theorem KT.after {b:Bool}{Q:Bool->Hp->Prop} (k:KT K B G I σ Γ' b Q) (g:Grow G I I1):KT K B G I1 σ Γ' b Q:=λH' I' r g'=>k H' I' r (g.trans g')
theorem KD.tup (k:KD K B G I σ Γ (.tup ds) Q) (r:Rep K B G I H σ Γ){p:Addr}{xs:List V} (hp:H p=none) (h:IsA K I ds xs):Q (.ref p) (upd H p (.tup xs)) :=
 k _ _ _ (r.alloc hp _) (r.growAlloc hp _) (Is.tup (SqT.of av') (h.mono (aS' (r.iFree hp) _)))
theorem KO.new (k:KO K B G I σ Γ ds Q) (r:Rep K B G I H σ Γ){p:Addr}{xs:List V} (hp:H p=none) (h:IsA K I ds xs):Q (.ref p) (upd H p (.lst xs)) :=
 k p xs _ I (r.fresh hp _) (Grow.refl _ _) av' (r.iFree hp) (r.gFree hp) (r.apart hp) h
end
section
variable {X:Cx}{B:BB}{a b c e:Expr}{es:List Expr}{pos:Pos}{ga gb gc:M D}
def frz (g:M (List D)):M D:=bnd g λds=>ret (.lst ds)
theorem ar' {g:M (List D)} (h:EO X B e g):ED X B e (frz g):=PE.imp h λσ H Q q=>by
 obtain ⟨G,I,Γ,d,Γ',r,e1,k⟩:=q
 obtain ⟨ds,Γ1,e2,e3⟩:=ae' e1
 cases e3
 refine ⟨G,I,Γ,ds,_,r,e2,λp xs H' I' r' g h1 h2 h3 h4 h5=>?_⟩
 exact k _ _ _ (r'.freeze h1 h2 h4) (g.trans (growFreeze h2 h3)) (Is.lst (RdK.of av') (h5.mono (aS' h2 _)))
def nm (i:Nat):M D:=λΓ=>match Γ[i]? with
 | some (some (.val d))=>some (d,Γ)
 | some (some (.own ds))=>some (.lst ds,Γ.set i (some (.val (.lst ds))))
 | some (some (.fro ds))=>some (.lst ds,Γ)
 | _=>none
theorem pf' {i:Nat}{x:Str} (h:PE X (.Name x pos) (tVar i)):ED X B (.Name x pos) (nm i):=PE.imp h λσ H Q q=>by
 obtain ⟨G,I,Γ,d,Γ',r,e1,k⟩:=q
 unfold nm at e1
 cases e:Γ[i]? with
 | none=>rw [e] at e1;cases e1
 | some o =>
  cases o with
  | none=>rw [e] at e1;cases e1
  | some q =>
   obtain ⟨v,h1,h2⟩:=r.slot i q e
   cases q with
   | val d'=>rw [e] at e1;cases e1;exact ⟨v,h1,k.now r h2⟩
   | bor ds=>rw [e] at e1;cases e1
   | dic ds=>rw [e] at e1;cases e1
   | fro ds=>rw [e] at e1;cases e1;obtain ⟨p,xs,rfl,f1,f2,f3⟩:=h2;exact ⟨_,h1,k.now r (Is.lst (RdK.of f1) f3)⟩
   | own ds =>
    rw [e] at e1;cases e1
    obtain ⟨p,xs,rfl,g1,g2,g3,g4⟩:=h2
    refine ⟨_,h1,k _ _ (upd I p (.lst xs)) ?_ (growFreeze g2 g3) (Is.lst (RdK.of av') (g4.mono (aS' g2 _)))⟩
    have ap:Apart σ (Γ.set i none) p:=λj q' z m s=>by
     rcases aK' z with ⟨_,z',_⟩ | ⟨n,z'⟩
     ·cases z'
     ·exact n (r.dist j i q' (.own ds) _ z' e m rfl s h1)
    have r1:=(r.forget i).freeze g1 g2 ap
    have r2:=r1.learn (i:=i) (q:=.val (.lst ds)) h1 (Is.lst (RdK.of av') (g4.mono (aS' g2 _))) (λm=>nomatch m) (λ_ z=>nomatch z)
    rw [List.set_set] at r2
    exact r2
theorem ed_c {d:D}{v:V} (h:PE X e (tC v)) (hd:∀ I,Is X.K I d v):ED X B e (ret d):=PE.imp h λσ H Q q=>by
 obtain ⟨G,I,Γ,d',Γ',r,e1,k⟩:=q
 cases e1
 exact k.now r (hd I)
theorem ad' {i j}:ED X B (.Constant (.int i) j pos) (ret (.int i)):=ed_c qD' λ_=>Is.int i
theorem bt' {b j}:ED X B (.Constant (.bool b) j pos) (ret (.bl b)):=ed_c rY' λ_=>Is.bl b
theorem cD' {j}:ED X B (.Constant .none j pos) (ret .non):=ed_c qE' λ_=>Is.non
theorem je' {x j}:ED X B (.Constant (.str x) j pos) (ret (.str x)):=ed_c qF' λ_=>Is.str x
def nilA:M (List D):=ret []
def consA (g:M D) (t:M (List D)):M (List D):=bnd g λd=>bnd t λds=>ret (d::ds)
theorem ac':AD X B [] nilA:=PA.imp gB' λσ H Q q=>by
 obtain ⟨G,I,Γ,d,Γ',r,e1,k⟩:=q
 cases e1
 exact k _ _ _ r (Grow.refl _ _) IsA.nil
theorem pJ' {g:M D}{t:M (List D)} (ha:ED X B e g) (hr:AD X B es t) (hs:starEach (e::es) X.env=(false,eval e X.env)::starEach es X.env:=by rfl):AD X B (e::es) (consA g t) :=
 PA.imp (d1' ha hr hs) λσ H Q q=>by
  obtain ⟨G,I,Γ,d,Γ',r,e1,k⟩:=q
  obtain ⟨d1,Γ1,e2,e3⟩:=ae' e1
  obtain ⟨d2,Γ2,e4,e5⟩:=ae' e3
  cases e5
  exact ⟨G,I,Γ,d1,Γ1,r,e2,λv H1 I1 r1 g1 h1=>⟨G,I1,Γ1,d2,_,r1,e4,λvs H2 I2 r2 g2 h2=>k _ _ _ r2 (g1.trans g2) (IsA.cons (h1.mono g2.up) h2)⟩⟩
def lim:Nat:=1000000
theorem dz' {n:Nat} (h:n<=lim):n<=sizeLine:=Nat.le_trans h (by rw [sizeLine_eq];decide)
def tupA (t:M (List D)):M D:=bnd t λds=>lft (if ds.length<=lim then some (.tup ds) else none)
def lstA (t:M (List D)):M (List D):=bnd t λds=>lft (if ds.length<=lim then some ds else none)
theorem aw' {α:Type}{c:Prop} [Decidable c]{a b:α} (h:(if c then some a else none)=some b):c/\b=a:=by
 by_cases hc:c
 ·rw [if_pos hc] at h;exact ⟨hc,(Option.some.inj h).symm⟩
 ·rw [if_neg hc] at h;cases h
theorem aM' {x1}{t:M (List D)} (h:AD X B es t):ED X B (.Tuple es x1 pos) (tupA t):=PE.imp (qY' h) λσ H Q q=>by
 obtain ⟨G,I,Γ,d,Γ',r,e1,k⟩:=q
 obtain ⟨d1,Γ1,e2,e3⟩:=ae' e1
 obtain ⟨e4,rfl⟩:=ao' e3
 obtain ⟨hl,rfl⟩:=aw' e4
 refine ⟨G,I,Γ,d1,_,r,e2,λvs H1 I1 r1 g1 h1=>⟨?_,λp hp=>(k.after g1).tup r1 hp h1⟩⟩
 rw [← h1.length];exact dz' hl
theorem aN' {t:M (List D)} (h:AD X B es t):EO X B (.List es pos) (lstA t):=PE.imp (qZ' h) λσ H Q q=>by
 obtain ⟨G,I,Γ,d,Γ',r,e1,k⟩:=q
 obtain ⟨d1,Γ1,e2,e3⟩:=ae' e1
 obtain ⟨e4,rfl⟩:=ao' e3
 obtain ⟨hl,rfl⟩:=aw' e4
 refine ⟨G,I,Γ,_,_,r,e2,λvs H1 I1 r1 g1 h1=>⟨?_,λp hp=>(k.after g1).new r1 hp h1⟩⟩
 rw [← h1.length];exact dz' hl
def OpD (K:PySem.W.Frag) (r:R2) (F:D->D->Option D):Prop:=∀ a b d,F a b=some d->∀ (B:BB) (G I H:Hp) (σ:L2.St) (Γ:Gm) (x y:V) (Q:VK),Rep K B G I H σ Γ->Is K I a x->Is K I b y->KD K B G I σ Γ d Q->r x y H Q
def OpO (K:PySem.W.Frag) (r:R2) (F:D->D->Option (List D)):Prop:=∀ a b d,F a b=some d->∀ (B:BB) (G I H:Hp) (σ:L2.St) (Γ:Gm) (x y:V) (Q:VK),Rep K B G I H σ Γ->Is K I a x->Is K I b y->KO K B G I σ Γ d Q->r x y H Q
def CallD (K:PySem.W.Frag) (r:List V->Hp->VK->Prop) (F:List D->Option D):Prop:=∀ ds d,F ds=some d->∀ (B:BB) (G I H:Hp) (σ:L2.St) (Γ:Gm) (xs:List V) (Q:VK),Rep K B G I H σ Γ->IsA K I ds xs->KD K B G I σ Γ d Q->r xs H Q
def CallO (K:PySem.W.Frag) (r:List V->Hp->VK->Prop) (F:List D->Option (List D)):Prop:=∀ ds d,F ds=some d->∀ (B:BB) (G I H:Hp) (σ:L2.St) (Γ:Gm) (xs:List V) (Q:VK),Rep K B G I H σ Γ->IsA K I ds xs->KO K B G I σ Γ d Q->r xs H Q
def op2 {α:Type} (F:D->D->Option α) (ga gb:M D):M α:=bnd ga λx=>bnd gb λy=>lft (F x y)
def fn1 {α:Type} (F:List D->Option α) (t:M (List D)):M α:=bnd t λds=>lft (F ds)
theorem t_op {r:R2}{F:D->D->Option D}{K:PySem.W.Frag} (h:OpD K r F):∀ σ H Q,tD K B (op2 F ga gb) σ H Q->tOp r (tD K B ga) (tD K B gb) σ H Q:=λσ H Q q=>by
 obtain ⟨G,I,Γ,d,Γ',r,e1,k⟩:=q
 obtain ⟨d1,Γ1,e2,e3⟩:=ae' e1
 obtain ⟨d2,Γ2,e4,e5⟩:=ae' e3
 obtain ⟨e6,rfl⟩:=ao' e5
 exact ⟨G,I,Γ,d1,Γ1,r,e2,λv H1 I1 r1 g1 h1=>⟨G,I1,Γ1,d2,_,r1,e4,λw H2 I2 r2 g2 h2=>h _ _ _ e6 B G I2 H2 σ _ v w Q r2 (h1.mono g2.up) h2 (k.after (g1.trans g2))⟩⟩
theorem r8' {r:R2}{F:D->D->Option (List D)}{K:PySem.W.Frag} (h:OpO K r F):∀ σ H Q,tO K B (op2 F ga gb) σ H Q->tOp r (tD K B ga) (tD K B gb) σ H Q:=λσ H Q q=>by
 obtain ⟨G,I,Γ,d,Γ',r,e1,k⟩:=q
 obtain ⟨d1,Γ1,e2,e3⟩:=ae' e1
 obtain ⟨d2,Γ2,e4,e5⟩:=ae' e3
 obtain ⟨e6,rfl⟩:=ao' e5
 exact ⟨G,I,Γ,d1,Γ1,r,e2,λv H1 I1 r1 g1 h1=>⟨G,I1,Γ1,d2,_,r1,e4,λw H2 I2 r2 g2 h2=>h _ _ _ e6 B G I2 H2 σ _ v w Q r2 (h1.mono g2.up) h2 (k.after (g1.trans g2))⟩⟩
theorem fM' {op:Operator}{r:R2}{F:D->D->Option D} (ho:OpR X (binaryOp op) r) (h:OpD X.K r F) (ha:ED X B a ga) (hb:ED X B b gb):ED X B (.BinOp a op b pos) (op2 F ga gb):=PE.imp (pc' ho ha hb) (t_op h)
theorem r9' {op:Operator}{r:R2}{F:D->D->Option (List D)} (ho:OpR X (binaryOp op) r) (h:OpO X.K r F) (ha:ED X B a ga) (hb:ED X B b gb):EO X B (.BinOp a op b pos) (op2 F ga gb):=PE.imp (pc' ho ha hb) (r8' h)
theorem q7' {op:CmpOp}{r:R2}{F:D->D->Option D} (ho:OpR X (compareOp op) r) (h:OpD X.K r F) (ha:ED X B a ga) (hb:ED X B b gb) (hm:behindInMarks op b=false:=by first | exact nomark _ | rfl):ED X B (.Compare a [op] [b] pos) (op2 F ga gb):=PE.imp (pA' ho ha hb hm) (t_op h)
theorem sa' {r:R2}{F:D->D->Option D} (ho:IxR X r) (h:OpD X.K r F) (ha:ED X B a ga) (hb:ED X B b gb) (hs:PlainIx b:=by exact λ_ _=>rfl):ED X B (.Subscript a b pos) (op2 F ga gb):=PE.imp (pd' ho ha hb hs) (t_op h)
def asB (d:D):Option Bool:=match d with
 | .bl b=>some b
 | _=>none
theorem d2' {d:D}{b:Bool} (h:asB d=some b):d=.bl b:=by
 cases d<;>simp [asB] at h
 rw [h]
def tst (g:M D):M Bool:=bnd g λd=>lft (asB d)
theorem i1' {K:PySem.W.Frag}{g:M D}{t:TE} (ht:∀ σ H Q,tD K B g σ H Q->t σ H Q):∀ σ H Q,tTD K B (tst g) σ H Q->tTest t σ H Q:=λσ H Q q=>by
 obtain ⟨G,I,Γ,d,Γ',r,e1,k⟩:=q
 obtain ⟨d1,Γ1,e2,e3⟩:=ae' e1
 obtain ⟨e4,rfl⟩:=ao' e3
 have:=d2' e4
 subst this
 exact ht _ _ _ ⟨G,I,Γ,_,_,r,e2,λv H1 I1 r1 g1 h1=>⟨d,a3' h1,k _ _ r1 g1⟩⟩
theorem cZ' {op:CmpOp}{r:R2}{F:D->D->Option D} (ho:OpR X (compareOp op) r) (h:OpD X.K r F) (ha:ED X B a ga) (hb:ED X B b gb) (hm:behindInMarks op b=false:=by first | exact nomark _ | rfl):TD X B (.Compare a [op] [b] pos) (tst (op2 F ga gb)):=PT.imp (kZ' ho ha hb hm) (i1' (t_op h))
theorem bu' (ha:ED X B a ga) (he:∀ whole,isTrue a X.env whole=(do let v ← whole;standAt a.pos;holding [v] (truthy v)):=by intro _;rfl):TD X B a (tst ga):=PT.imp (qH' ha he) (i1' λ_ _ _ z=>z)
def chn (F F':D->D->Option D) (ga gb gc:M D):M D:=bnd ga λx=>bnd gb λy=>bnd (lft (F x y)) λz=>bnd (lft (asB z)) λk=>if k then bnd gc λw=>lft (F' y w) else ret (.bl false)
theorem pg' {r r':R2}{F F':D->D->Option D}{K:PySem.W.Frag} (h:OpD K r F) (h':OpD K r' F'):∀ σ H Q,tD K B (chn F F' ga gb gc) σ H Q->tChain r r' (tD K B ga) (tD K B gb) (tD K B gc) σ H Q:=λσ H Q q=>by
 obtain ⟨G,I,Γ,d,Γ',r,e1,k⟩:=q
 obtain ⟨d1,Γ1,e2,e3⟩:=ae' e1
 obtain ⟨d2,Γ2,e4,e5⟩:=ae' e3
 obtain ⟨d3,Γ3,e6,e7⟩:=ae' e5
 obtain ⟨e8,rfl⟩:=ao' e6
 obtain ⟨k1,Γ4,e9,f1⟩:=ae' e7
 obtain ⟨f2,rfl⟩:=ao' e9
 have:=d2' f2
 subst this
 refine ⟨G,I,Γ,d1,Γ1,r,e2,λv H1 I1 r1 g1 h1=>⟨G,I1,Γ1,d2,Γ4,r1,e4,λw H2 I2 r2 g2 h2=>h _ _ _ e8 B G I2 H2 σ Γ4 v w _ r2 (h1.mono g2.up) h2 λu H3 I3 r3 g3 h3=>⟨k1,a3' h3,?_⟩⟩⟩
 cases k1 with
 | false=>cases f1;exact iteF (k _ _ _ r3 (g1.trans (g2.trans g3)) (Is.bl false))
 | true =>
  obtain ⟨d4,Γ5,f3,f4⟩:=ae' f1
  obtain ⟨f5,rfl⟩:=ao' f4
  exact iteT ⟨G,I3,Γ4,d4,_,r3,f3,λz H4 I4 r4 g4 h4=>h' _ _ _ f5 B G I4 H4 σ _ w z Q r4 (h2.mono (g3.trans g4).up) h4 (k.after (g1.trans (g2.trans (g3.trans g4))))⟩
theorem q8' {op op':CmpOp}{r r':R2}{F F':D->D->Option D} (ho:OpR X (compareOp op) r) (h:OpD X.K r F) (ho':OpR X (compareOp op') r') (h':OpD X.K r' F') (ha:ED X B a ga) (hb:ED X B b gb) (hc:ED X B c gc)
  (hm:lastMarks [op,op'] [b,c]=false:=by with_unfolding_all rfl):ED X B (.Compare a [op,op'] [b,c] pos) (chn F F' ga gb gc):=PE.imp (oj' ho ho' ha hb hc hm) (pg' h h')
theorem mS' {op op':CmpOp}{r r':R2}{F F':D->D->Option D} (ho:OpR X (compareOp op) r) (h:OpD X.K r F) (ho':OpR X (compareOp op') r') (h':OpD X.K r' F') (ha:ED X B a ga) (hb:ED X B b gb) (hc:ED X B c gc)
  (hm:lastMarks [op,op'] [b,c]=false:=by with_unfolding_all rfl):TD X B (.Compare a [op,op'] [b,c] pos) (tst (chn F F' ga gb gc)):=PT.imp (ok' ho ho' ha hb hc hm) (i1' (pg' h h'))
def andT (a b:M Bool):M Bool:=bnd a λk=>if k then b else ret false
def orT (a b:M Bool):M Bool:=bnd a λk=>if k then ret true else b
def notT (a:M Bool):M Bool:=bnd a λk=>ret (!k)
def andV (a b:M D):M D:=bnd a λd=>bnd (lft (asB d)) λk=>if k then b else ret (.bl false)
def notV (a:M D):M D:=bnd a λd=>bnd (lft (asB d)) λk=>ret (.bl (!k))
def ifV (c:M Bool) (a b:M D):M D:=bnd c λk=>if k then a else b
variable {ta tb:M Bool}{rest:List Expr}
theorem k4' (ha:TD X B a ta):TW X B (.BoolOp .And [a] pos) ta:=pu' ha
theorem dA' (ha:TD X B a ta):TW X B (.BoolOp .Or [a] pos) ta:=qI' ha
theorem mT' (ha:TD X B a ta) (hb:TW X B (.BoolOp .And (b::rest) pos) tb):TW X B (.BoolOp .And (a::b::rest) pos) (andT ta tb):=PW.imp (qJ' ha hb) λσ H Q q=>by
 obtain ⟨G,I,Γ,d,Γ',r,e1,k⟩:=q
 obtain ⟨d1,Γ1,e2,e3⟩:=ae' e1
 refine ⟨G,I,Γ,d1,Γ1,r,e2,λH1 I1 r1 g1=>?_⟩
 cases d1 with
 | true=>exact iteT ⟨G,I1,Γ1,d,Γ',r1,e3,k.after g1⟩
 | false=>cases e3;exact iteF (k _ _ r1 g1)
theorem cH' (ha:TD X B a ta) (hb:TW X B (.BoolOp .Or (b::rest) pos) tb):TW X B (.BoolOp .Or (a::b::rest) pos) (orT ta tb):=PW.imp (rZ' ha hb) λσ H Q q=>by
 obtain ⟨G,I,Γ,d,Γ',r,e1,k⟩:=q
 obtain ⟨d1,Γ1,e2,e3⟩:=ae' e1
 refine ⟨G,I,Γ,d1,Γ1,r,e2,λH1 I1 r1 g1=>?_⟩
 cases d1 with
 | false=>exact iteF ⟨G,I1,Γ1,d,Γ',r1,e3,k.after g1⟩
 | true=>cases e3;exact iteT (k _ _ r1 g1)
theorem TW.td (h:TW X B e ta):TD X B e ta:=h _
theorem bC' (ha:TD X B a ta):TD X B (.UnaryOp .Not a pos) (notT ta):=PT.imp (qK' ha) λσ H Q q=>by
 obtain ⟨G,I,Γ,d,Γ',r,e1,k⟩:=q
 obtain ⟨d1,Γ1,e2,e3⟩:=ae' e1
 cases e3
 exact ⟨G,I,Γ,d1,_,r,e2,λH1 I1 r1 g1=>k _ _ r1 g1⟩
theorem c0' {op} (h:ED X B a ga):ED X B (.BoolOp op [a] pos) ga:=qL' h
theorem bW' (ha:ED X B a ga) (hb:ED X B (.BoolOp .And (b::rest) pos) gb):ED X B (.BoolOp .And (a::b::rest) pos) (andV ga gb):=PE.imp (qM' ha hb) λσ H Q q=>by
 obtain ⟨G,I,Γ,d,Γ',r,e1,k⟩:=q
 obtain ⟨d1,Γ1,e2,e3⟩:=ae' e1
 obtain ⟨k1,Γ2,e4,e5⟩:=ae' e3
 obtain ⟨e6,rfl⟩:=ao' e4
 have:=d2' e6
 subst this
 refine ⟨G,I,Γ,_,_,r,e2,λv H1 I1 r1 g1 h1=>⟨k1,a3' h1,?_⟩⟩
 cases k1 with
 | true=>exact iteT ⟨G,I1,_,d,Γ',r1,e5,k.after g1⟩
 | false=>cases e5;exact iteF (k _ _ _ r1 g1 (Is.bl false))
theorem gG' (ha:ED X B a ga):ED X B (.UnaryOp .Not a pos) (notV ga):=PE.imp (qN' ha) λσ H Q q=>by
 obtain ⟨G,I,Γ,d,Γ',r,e1,k⟩:=q
 obtain ⟨d1,Γ1,e2,e3⟩:=ae' e1
 obtain ⟨k1,Γ2,e4,e5⟩:=ae' e3
 obtain ⟨e6,rfl⟩:=ao' e4
 have:=d2' e6
 subst this
 cases e5
 exact ⟨G,I,Γ,_,_,r,e2,λv H1 I1 r1 g1 h1=>⟨k1,a3' h1,k _ _ _ r1 g1 (Is.bl _)⟩⟩
theorem mU' (hc:TD X B c ta) (ha:ED X B a ga) (hb:ED X B b gb):ED X B (.IfExp c a b pos) (ifV ta ga gb):=PE.imp (oe' hc ha hb) λσ H Q q=>by
 obtain ⟨G,I,Γ,d,Γ',r,e1,k⟩:=q
 obtain ⟨d1,Γ1,e2,e3⟩:=ae' e1
 refine ⟨G,I,Γ,d1,Γ1,r,e2,λH1 I1 r1 g1=>?_⟩
 cases d1 with
 | true=>exact iteT ⟨G,I1,Γ1,d,Γ',r1,e3,k.after g1⟩
 | false=>exact iteF ⟨G,I1,Γ1,d,Γ',r1,e3,k.after g1⟩
variable {x:Str}{p:Pos}{id T:String}{r:List V->Hp->VK->Prop}{t:M (List D)}
theorem t_fn {F:List D->Option D}{K:PySem.W.Frag} (h:CallD K r F):∀ σ H Q,tD K B (fn1 F t) σ H Q->tCB r (tAD K B t) σ H Q:=λσ H Q q=>by
 obtain ⟨G,I,Γ,d,Γ',r,e1,k⟩:=q
 obtain ⟨d1,Γ1,e2,e3⟩:=ae' e1
 obtain ⟨e4,rfl⟩:=ao' e3
 exact ⟨G,I,Γ,d1,_,r,e2,λvs H1 I1 r1 g1 h1=>h _ _ e4 B G I1 H1 σ _ vs Q r1 h1 (k.after g1)⟩
theorem lN' {F:List D->Option (List D)}{K:PySem.W.Frag} (h:CallO K r F):∀ σ H Q,tO K B (fn1 F t) σ H Q->tCB r (tAD K B t) σ H Q:=λσ H Q q=>by
 obtain ⟨G,I,Γ,d,Γ',r,e1,k⟩:=q
 obtain ⟨d1,Γ1,e2,e3⟩:=ae' e1
 obtain ⟨e4,rfl⟩:=ao' e3
 exact ⟨G,I,Γ,d1,_,r,e2,λvs H1 I1 r1 g1 h1=>h _ _ e4 B G I1 H1 σ _ vs Q r1 h1 (k.after g1)⟩
theorem d8' {F:List D->Option D} (hc:CallR X (.builtin id) r) (h:CallD X.K r F) (hg:Gl X x) (hm:X.mg x=none) (hv:bootBuiltins x=some (.builtin id)) (ha:AD X B (e::es) t) (hn:x ≠ "__name__":=by decide) (hdb:(x == ("__debug__":Str))=false:=by decide)
  (he:starEach (e::es) X.env=(false,eval e X.env)::starEach es X.env:=by rfl) (hpl:(backTo pos (starEach es X.env)).any (·.1)=false:=by rfl):ED X B (.Call (.Name x p) (e::es) [] pos) (fn1 F t):=PE.imp (eN' hc hg hm hv ha hn hdb he hpl) (t_fn h)
theorem mV' {F:List D->Option (List D)} (hc:CallR X (.builtin id) r) (h:CallO X.K r F) (hg:Gl X x) (hm:X.mg x=none) (hv:bootBuiltins x=some (.builtin id)) (ha:AD X B (e::es) t) (hn:x ≠ "__name__":=by decide) (hdb:(x == ("__debug__":Str))=false:=by decide)
  (he:starEach (e::es) X.env=(false,eval e X.env)::starEach es X.env:=by rfl) (hpl:(backTo pos (starEach es X.env)).any (·.1)=false:=by rfl):EO X B (.Call (.Name x p) (e::es) [] pos) (fn1 F t):=PE.imp (eN' hc hg hm hv ha hn hdb he hpl) (lN' h)
theorem q9' {F:List D->Option D} (hc:CallR X (.type T) r) (h:CallD X.K r F) (hg:Gl X x) (hm:X.mg x=none) (hv:bootBuiltins x=some (.type T)) (ha:AD X B (e::es) t) (hn:x ≠ "__name__":=by decide) (hdb:(x == ("__debug__":Str))=false:=by decide)
  (he:starEach (e::es) X.env=(false,eval e X.env)::starEach es X.env:=by rfl) (hpl:(backTo pos (starEach es X.env)).any (·.1)=false:=by rfl):ED X B (.Call (.Name x p) (e::es) [] pos) (fn1 F t):=PE.imp (ii' hc hg hm hv ha hn hdb he hpl) (t_fn h)
theorem ra' {F:List D->Option (List D)} (hc:CallR X (.type T) r) (h:CallO X.K r F) (hg:Gl X x) (hm:X.mg x=none) (hv:bootBuiltins x=some (.type T)) (ha:AD X B (e::es) t) (hn:x ≠ "__name__":=by decide) (hdb:(x == ("__debug__":Str))=false:=by decide)
  (he:starEach (e::es) X.env=(false,eval e X.env)::starEach es X.env:=by rfl) (hpl:(backTo pos (starEach es X.env)).any (·.1)=false:=by rfl):EO X B (.Call (.Name x p) (e::es) [] pos) (fn1 F t):=PE.imp (ii' hc hg hm hv ha hn hdb he hpl) (lN' h)
end
end DL
namespace DL
open PySem PySem.Spec PyProof.Rows L2
inductive Fl where
 | nx | rt (r:R) | bk | ct
def ResOk (K:PySem.W.Frag) (G I H:Hp) (σ:L2.St) (Γ:Gm):R->V->Prop
 | .val d,v=>Is K I d v
 | .own ds,v=>∃ p xs,v=.ref p/\H p=some (.lst xs)/\I p=none/\G p=none/\Apart σ Γ p/\IsA K I ds xs
 | .bor _,_=>False
 | .fro ds,v=>∃ p xs,v=.ref p/\I p=some (.lst xs)/\G p=none/\IsA K I ds xs
 | .dic kvs,v=>∃ p xs,v=.ref p/\H p=some (.dK xs)/\I p=none/\G p=none/\Apart σ Γ p/\IsK K I kvs xs
def EndAt (K:PySem.W.Frag) (G I H:Hp) (σ:L2.St) (Γ:Gm) (E:Ends):Fl->Prop
 | .nx=>E.nx σ H
 | .bk=>E.bk σ H
 | .ct=>E.ct σ H
 | .rt r=>∀ v,ResOk K G I H σ Γ r v->E.rt v H
section
variable (K:PySem.W.Frag) (B:BB)
def KS (G I:Hp) (Γ':Gm) (f:Fl) (E:Ends):Prop:=∀ σ' H' I',Rep K B G I' H' σ' Γ'->Grow G I I'->EndAt K G I' H' σ' Γ' E f
def tS (g:M Fl):TS:=λE σ H=>∃ G I Γ f Γ',Rep K B G I H σ Γ/\g Γ=some (f,Γ')/\KS K B G I Γ' f E
def KG (m:Nat) (σ:L2.St) (G I:Hp) (Γ':Gm) (Q:L2.St->Hp->Prop):Prop:=∀ σ' H' I',Rep K B G I' H' σ' Γ'->Grow G I I'->σ'.drop m=σ.drop m->Q σ' H'
def tGD (m:Nat) (f:D->M Unit):TG:=λv σ H Q=>∃ G I Γ d Γ',Rep K B G I H σ Γ/\Is K I d v/\f d Γ=some ((),Γ')/\KG K B m σ G I Γ' Q
def tGs (m:Nat) (f:List D->M Unit):TGs:=λvs σ H Q=>∃ G I Γ ds Γ',Rep K B G I H σ Γ/\IsA K I ds vs/\f ds Γ=some ((),Γ')/\KG K B m σ G I Γ' Q
end
def SD (X:Cx) (B:BB) (st:Stmt) (g:M Fl):Prop:=PS X st (tS X.K B g)
def SDs (X:Cx) (B:BB) (st:List Stmt) (g:M Fl):Prop:=PSs X st (tS X.K B g)
def GD (X:Cx) (B:BB) (m:Nat) (tg:Expr) (f:D->M Unit):Prop:=PG X tg (tGD X.K B m f)
def GDs (X:Cx) (B:BB) (m:Nat) (tgs:List Expr) (f:List D->M Unit):Prop:=PGs X tgs (tGs X.K B m f)
section
variable {X:Cx}
theorem PS.imp {st:Stmt}{t t':TS} (h:PS X st t) (f:∀ E σ H,t' E σ H->t E σ H):PS X st t':=λpins s σ H E I q=>h pins s σ H E I (f E σ H q)
theorem PSs.imp {st:List Stmt}{t t':TS} (h:PSs X st t) (f:∀ E σ H,t' E σ H->t E σ H):PSs X st t':=λpins s σ H E I q=>h pins s σ H E I (f E σ H q)
theorem PG.imp {tg:Expr}{t t':TG} (h:PG X tg t) (f:∀ v σ H Q,t' v σ H Q->t v σ H Q):PG X tg t':=λpins s σ H v u Q I r q=>h pins s σ H v u Q I r (f v σ H Q q)
theorem PGs.imp {tgs:List Expr}{t t':TGs} (h:PGs X tgs t) (f:∀ v σ H Q,t' v σ H Q->t v σ H Q):PGs X tgs t':=λpins s σ H v u Q I r q=>h pins s σ H v u Q I r (f v σ H Q q)
theorem PI.imp {tg iter:Expr}{t t':TI} (h:PI X tg iter t) (f:∀ σ H Q,t' σ H Q->t σ H Q):PI X tg iter t':=λpins s σ H R I q=>h pins s σ H R I (f σ H R q)
end
section
variable {K:PySem.W.Frag}{B:BB}{G I I1 H:Hp}{Γ Γ':Gm}{f:Fl}{E:Ends}
theorem KS.after (k:KS K B G I Γ' f E) (g:Grow G I I1):KS K B G I1 Γ' f E:=λσ' H' I' r g'=>k σ' H' I' r (g.trans g')
theorem KG.after {m:Nat}{σ σ1:L2.St}{Q:L2.St->Hp->Prop} (k:KG K B m σ G I Γ' Q) (g:Grow G I I1) (hs:σ1.drop m=σ.drop m):KG K B m σ1 G I1 Γ' Q:=λσ' H' I' r g' z=>k σ' H' I' r (g.trans g') (z.trans hs)
end
section
variable {X:Cx}{B:BB}{a b c e:Expr}{es:List Expr}{pos:Pos}{ga gb gc:M D}{st:Stmt}{rest:List Stmt}{g h:M Fl}
def seqS (g h:M Fl):M Fl:=bnd g λf=>match f with
 | .nx=>h
 | .rt r=>ret (.rt r)
 | .bk=>ret .bk
 | .ct=>ret .ct
theorem pK':SDs X B [] (ret .nx):=PSs.imp pv' λE σ H q=>by
 obtain ⟨G,I,Γ,f,Γ',r,e1,k⟩:=q
 cases e1
 exact k σ H I r (Grow.refl _ _)
theorem pL' (h:SD X B st g):SDs X B [st] g:=pw' h
theorem oq' (h1:SD X B st g) (h2:SDs X B rest h):SDs X B (st::rest) (seqS g h):=PSs.imp (of' h1 h2) λE σ H q=>by
 obtain ⟨G,I,Γ,f,Γ',r,e1,k⟩:=q
 obtain ⟨f1,Γ1,e2,e3⟩:=ae' e1
 refine ⟨G,I,Γ,f1,Γ1,r,e2,λσ1 H1 I1 r1 g1=>?_⟩
 cases f1 with
 | nx=>exact ⟨G,I1,Γ1,f,Γ',r1,e3,k.after g1⟩
 | bk=>cases e3;exact k σ1 H1 I1 r1 g1
 | ct=>cases e3;exact k σ1 H1 I1 r1 g1
 | rt v=>cases e3;exact k σ1 H1 I1 r1 g1
theorem or':SD X B st (λ_=>none):=PS.imp og' λE σ H q=>by
 obtain ⟨G,I,Γ,f,Γ',r,e1,k⟩:=q
 cases e1
def dropS (g:M D):M Fl:=bnd g λ_=>ret .nx
theorem hG' (he:ED X B e ga) (hs:swapsWith e none pos.line X.env=pure false:=by rfl):SD X B (.Expr e pos) (dropS ga):=PS.imp (hE' he hs) λE σ H q=>by
 obtain ⟨G,I,Γ,f,Γ',r,e1,k⟩:=q
 obtain ⟨d1,Γ1,e2,e3⟩:=ae' e1
 cases e3
 exact ⟨G,I,Γ,d1,_,r,e2,λv H1 I1 r1 g1 h1=>k σ H1 I1 r1 g1⟩
def retS (g:M D):M Fl:=bnd g λd=>ret (.rt (.val d))
theorem aq' (he:ED X B e ga):SD X B (.Return (some e) pos) (retS ga):=PS.imp (i6' he) λE σ H q=>by
 obtain ⟨G,I,Γ,f,Γ',r,e1,k⟩:=q
 obtain ⟨d1,Γ1,e2,e3⟩:=ae' e1
 cases e3
 exact ⟨G,I,Γ,d1,_,r,e2,λv H1 I1 r1 g1 h1=>k σ H1 I1 r1 g1 v h1⟩
def retO (g:M (List D)):M Fl:=bnd g λd=>ret (.rt (.own d))
theorem d3' {g:M (List D)} (he:EO X B e g):SD X B (.Return (some e) pos) (retO g):=PS.imp (i6' he) λE σ H q=>by
 obtain ⟨G,I,Γ,f,Γ',r,e1,k⟩:=q
 obtain ⟨d1,Γ1,e2,e3⟩:=ae' e1
 cases e3
 exact ⟨G,I,Γ,d1,_,r,e2,λp xs H1 I1 r1 g1 h1 h2 h3 h4 h5=>k σ H1 I1 r1 g1 _ ⟨p,xs,rfl,h1,h2,h3,h4,h5⟩⟩
def ifS (c:M Bool) (a b:M Fl):M Fl:=bnd c λk=>if k then a else b
theorem sb' {tc:M Bool}{sa sb:List Stmt} (hc:TD X B c tc) (ha:SDs X B sa g) (hb:SDs X B sb h):SD X B (.If c sa sb pos) (ifS tc g h):=PS.imp (r0' hc ha hb) λE σ H q=>by
 obtain ⟨G,I,Γ,f,Γ',r,e1,k⟩:=q
 obtain ⟨d1,Γ1,e2,e3⟩:=ae' e1
 refine ⟨G,I,Γ,d1,Γ1,r,e2,λH1 I1 r1 g1=>?_⟩
 cases d1 with
 | true=>exact iteT ⟨G,I1,Γ1,f,Γ',r1,e3,k.after g1⟩
 | false=>exact iteF ⟨G,I1,Γ1,f,Γ',r1,e3,k.after g1⟩
def putS (i:Nat) (q:R):M Unit:=λΓ=>if i < Γ.length then some ((),Γ.set i (some q)) else none
def tgN (i:Nat) (d:D):M Unit:=putS i (.val d)
theorem d9' {i:Nat}{q:R}{Γ Γ':Gm}{u:Unit} (h:putS i q Γ=some (u,Γ')):i < Γ.length/\Γ'=Γ.set i (some q):=by
 unfold putS at h
 obtain ⟨h1,h2⟩:=aw' h
 cases h2
 exact ⟨h1,rfl⟩
theorem jf' {α:Type}:∀ {l:List α}{i m:Nat}{a:α},i < m->(l.set i a).drop m=l.drop m
 | [],_,_,_,_=>rfl
 | _::_,0,m+1,_,_=>rfl
 | _::r,i+1,m+1,a,h=>by
  rw [List.set_cons_succ,List.drop_succ_cons,List.drop_succ_cons]
  exact jf' (Nat.lt_of_succ_lt_succ h)
theorem gd_n {i m:Nat}{x:Str} (hN:X.N.Nodup) (hi:X.N[i]?=some x:=by rfl) (hx:Loc X.env.scope x:=by first | exact Or.inl rfl | exact Or.inr rfl) (hf:X.fn x=true\/X.env.scope.names.lookup x=some .local:=by first | exact .inl rfl | exact .inr rfl) (him:i < m:=by decide):GD X B m (.Name x pos) (tgN i) :=
 PG.imp (px' hN hi hx hf) λv σ H Q q=>by
  obtain ⟨G,I,Γ,d,Γ',r,hd,e1,k⟩:=q
  obtain ⟨hl,rfl⟩:=d9' e1
  exact k _ _ I (r.store (by rw [r.len];exact hl) hd (λm=>nomatch m) (λ_ z=>nomatch z)) (Grow.refl _ _) (jf' him)
def tgNil (ds:List D):M Unit:=match ds with
 | []=>ret ()
 | _=>λ_=>none
def tgCons (f:D->M Unit) (t:List D->M Unit) (ds:List D):M Unit:=match ds with
 | d::r=>bnd (f d) λ_=>t r
 | []=>λ_=>none
theorem bo' {m:Nat}:GDs X B m [] tgNil:=PGs.imp py' λv σ H Q q=>by
 obtain ⟨G,I,Γ,ds,Γ',r,hd,e1,k⟩:=q
 cases ds with
 | nil=>cases e1;exact ⟨hd.nil_inv,k _ _ I r (Grow.refl _ _) rfl⟩
 | cons d t=>cases e1
theorem aC' {m:Nat}{f:D->M Unit}{t:List D->M Unit} (h1:GD X B m e f) (h2:GDs X B m es t) (hs:(assignEach (e::es) X.env).map (·.2)=assign e X.env::(assignEach es X.env).map (·.2):=by rfl):GDs X B m (e::es) (tgCons f t):=PGs.imp (oh' h1 h2 hs) λv σ H Q q=>by
 obtain ⟨G,I,Γ,ds,Γ',r,hd,e1,k⟩:=q
 cases ds with
 | nil=>cases e1
 | cons d t =>
  obtain ⟨x,xs,rfl,h1,h2⟩:=hd.cons_inv
  obtain ⟨u,Γ1,e2,e3⟩:=ae' e1
  exact ⟨x,xs,rfl,G,I,Γ,d,Γ1,r,h1,e2,λσ1 H1 I1 r1 g1 z=>⟨G,I1,Γ1,t,Γ',r1,h2.mono g1.up,e3,k.after g1 z⟩⟩
def tgTup (n:Nat) (t:List D->M Unit) (d:D):M Unit:=match d with
 | .tup ds=>if ds.length=n then t ds else λ_=>none
 | _=>λ_=>none
theorem bX' {k m:Nat}{t:List D->M Unit}{n:Nat} (hc:X.calm=true) (h:GDs X B m es t) (hn:(assignEach es X.env).length=n:=by rfl) (hst:(assignEach es X.env).findIdx? (·.1)=none:=by rfl):GD X B m (.Tuple es k pos) (tgTup n t) :=
 PG.imp (qO' hc h hn hst) λv σ H Q q=>by
  obtain ⟨G,I,Γ,d,Γ',r,hd,e1,k⟩:=q
  cases d with
  | tup ds =>
   obtain ⟨a,xs,rfl,h1,h2⟩:=as' hd
   unfold tgTup at e1
   by_cases hl:ds.length=n
   ·simp only [hl,if_true] at e1
    exact ⟨a,xs,rfl,Same.sqT r.iH h1,by rw [← h2.length];exact hl,G,I,Γ,ds,Γ',r,h2,e1,k⟩
   ·simp only [hl,if_false] at e1;cases e1
  | _=>cases e1
def asgS (g:M D) (f:D->M Unit):M Fl:=bnd g λd=>bnd (f d) λ_=>ret .nx
theorem fi' {m:Nat}{tg:Expr}{f:D->M Unit} (he:ED X B e ga) (hg:GD X B m tg f) (hs:swapsWithSole [tg] e pos.line X.env=pure false:=by rfl) (hw:swappedStores [tg] e X.env=pure none:=by rfl)
  (h1:(assignEach [tg] X.env).map (·.2)=[assign tg X.env]:=by rfl):SD X B (.Assign [tg] e pos) (asgS ga f):=PS.imp (mC' he hg hs hw h1) λE σ H q=>by
 obtain ⟨G,I,Γ,f,Γ',r,e1,k⟩:=q
 obtain ⟨d1,Γ1,e2,e3⟩:=ae' e1
 obtain ⟨d2,Γ2,e4,e5⟩:=ae' e3
 cases e5
 exact ⟨G,I,Γ,d1,Γ1,r,e2,λv H1 I1 r1 g1 h1=>⟨G,I1,Γ1,d1,_,r1,h1,e4,λσ2 H2 I2 r2 g2 _=>k σ2 H2 I2 r2 (g1.trans g2)⟩⟩
def setV (i:Nat) (g:M D):M Fl:=bnd g λd=>bnd (putS i (.val d)) λ_=>ret .nx
def setO (i:Nat) (g:M (List D)):M Fl:=bnd g λd=>bnd (putS i (.own d)) λ_=>ret .nx
theorem rb' {K:PySem.W.Frag}{i:Nat}:∀ E σ H,tS K B (setV i ga) E σ H->tAsg (tD K B ga) (gName i) E σ H:=λE σ H q=>by
 obtain ⟨G,I,Γ,f,Γ',r,e1,k⟩:=q
 obtain ⟨d1,Γ1,e2,e3⟩:=ae' e1
 obtain ⟨d2,Γ2,e4,e5⟩:=ae' e3
 cases e5
 obtain ⟨hl,rfl⟩:=d9' e4
 exact ⟨G,I,Γ,d1,Γ1,r,e2,λv H1 I1 r1 g1 h1=>k _ H1 I1 (r1.store (by rw [r1.len];exact hl) h1 (λm=>nomatch m) (λ_ z=>nomatch z)) g1⟩
theorem rc' {K:PySem.W.Frag}{i:Nat}{g:M (List D)}:∀ E σ H,tS K B (setO i g) E σ H->tAsg (tO K B g) (gName i) E σ H:=λE σ H q=>by
 obtain ⟨G,I,Γ,f,Γ',r,e1,k⟩:=q
 obtain ⟨d1,Γ1,e2,e3⟩:=ae' e1
 obtain ⟨d2,Γ2,e4,e5⟩:=ae' e3
 cases e5
 obtain ⟨hl,rfl⟩:=d9' e4
 exact ⟨G,I,Γ,d1,Γ1,r,e2,λp xs H1 I1 r1 g1 h1 h2 h3 h4 h5=>k _ H1 I1 (r1.store (by rw [r1.len];exact hl) ⟨p,xs,rfl,h1,h2,h3,h5⟩ (λ_ p' z=>by cases z;exact h4) (λ_ z=>nomatch z)) g1⟩
theorem rd' {i:Nat}{x:Str}{pos':Pos} (hN:X.N.Nodup) (he:ED X B e ga) (hi:X.N[i]?=some x:=by rfl) (hx:Loc X.env.scope x:=by first | exact Or.inl rfl | exact Or.inr rfl) (hs:swapsWith e (some (.Name x pos')) pos.line X.env=pure false:=by rfl)
  (hf:X.fn x=true\/X.env.scope.names.lookup x=some .local:=by first | exact .inl rfl | exact .inr rfl):SD X B (.Assign [.Name x pos'] e pos) (setV i ga):=PS.imp (i7' hN hi hx he hs hf) rb'
theorem d4' {i:Nat}{x:Str}{pos':Pos}{g:M (List D)} (hN:X.N.Nodup) (he:EO X B e g) (hi:X.N[i]?=some x:=by rfl) (hx:Loc X.env.scope x:=by first | exact Or.inl rfl | exact Or.inr rfl) (hs:swapsWith e (some (.Name x pos')) pos.line X.env=pure false:=by rfl)
  (hf:X.fn x=true\/X.env.scope.names.lookup x=some .local:=by first | exact .inl rfl | exact .inr rfl):SD X B (.Assign [.Name x pos'] e pos) (setO i g):=PS.imp (i7' hN hi hx he hs hf) rc'
def isMut (Γ:Gm) (i:Nat):Bool:=match Γ[i]? with
 | some (some r)=>r.mut
 | _=>false
def wr (i:Nat) (F:List D->Option (List D)):M Unit:=λΓ=>match Γ[i]? with
 | some (some (.own ds))=>match F ds with
  | some es=>some ((),Γ.set i (some (.own es)))
  | none=>none
 | some (some (.bor ds))=>match F ds with
  | some es=>some ((),Γ.set i (some (.bor es)))
  | none=>none
 | _=>none
theorem cQ' {K:PySem.W.Frag}{G I H:Hp}{σ:L2.St}{Γ:Gm}{i:Nat} (h:isMut Γ i=true) (r:Rep K B G I H σ Γ):∃ p xs,σ[i]?=some (some (.ref p))/\H p=some (.lst xs):=by
 unfold isMut at h
 cases e:Γ[i]? with
 | none=>rw [e] at h;cases h
 | some o =>
  cases o with
  | none=>rw [e] at h;cases h
  | some q =>
   rw [e] at h
   obtain ⟨v,h1,h2⟩:=r.slot i q e
   cases q with
   | val d=>cases h
   | fro d=>cases h
   | dic d=>cases h
   | own d=>obtain ⟨p,xs,rfl,h3,_⟩:=h2;exact ⟨p,xs,h1,h3⟩
   | bor d=>obtain ⟨p,xs,rfl,h3,_⟩:=h2;exact ⟨p,xs,h1,h3⟩
theorem gH' {K:PySem.W.Frag}{G I H:Hp}{σ:L2.St}{Γ Γ':Gm}{i:Nat}{F:List D->Option (List D)}{u:Unit} (h:wr i F Γ=some (u,Γ')) (r:Rep K B G I H σ Γ) :
  ∃ p xs ds es,σ[i]?=some (some (.ref p))/\H p=some (.lst xs)/\IsA K I ds xs/\F ds=some es/\∀ ys,IsA K I es ys->Rep K B G I (upd H p (.lst ys)) σ Γ':=by
 unfold wr at h
 cases e:Γ[i]? with
 | none=>rw [e] at h;cases h
 | some o =>
  cases o with
  | none=>rw [e] at h;cases h
  | some q =>
   obtain ⟨v,h1,h2⟩:=r.slot i q e
   cases q with
   | val d=>rw [e] at h;cases h
   | fro d=>rw [e] at h;cases h
   | dic d=>rw [e] at h;cases h
   | own ds =>
    rw [e] at h
    obtain ⟨p,xs,rfl,g1,g2,g3,g4⟩:=h2
    cases hf:F ds with
    | none=>simp only [hf] at h;cases h
    | some es =>
     simp only [hf] at h;cases h
     exact ⟨p,xs,ds,es,h1,g1,g4,hf,λys hy=>r.write e rfl h1 g1 (.inl rfl) hy⟩
   | bor ds =>
    rw [e] at h
    obtain ⟨p,xs,rfl,g1,g2,g3,g4⟩:=h2
    cases hf:F ds with
    | none=>simp only [hf] at h;cases h
    | some es =>
     simp only [hf] at h;cases h
     exact ⟨p,xs,ds,es,h1,g1,g4,hf,λys hy=>r.write e rfl h1 g1 (.inr ⟨rfl,ds,rfl⟩) hy⟩
def mutS {α:Type} (i:Nat) (m:M α):M α:=λΓ=>if isMut Γ i then m Γ else none
theorem cJ' {α:Type}{i:Nat}{m:M α}{Γ:Gm}{r:α×Gm} (h:mutS i m Γ=some r):isMut Γ i=true/\m Γ=some r:=by
 unfold mutS at h
 by_cases hc:isMut Γ i=true
 ·rw [if_pos hc] at h;exact ⟨hc,h⟩
 ·rw [if_neg hc] at h;cases h
def appF (d:D) (ds:List D):Option (List D):=if ds.length < lim then some (ds++[d]) else none
def appS (i:Nat) (g:M D):M Fl:=mutS i (bnd g λd=>bnd (wr i (appF d)) λ_=>ret .nx)
theorem k5' {pins:List (Addr×Obj)}{σ:L2.St}{H:Hp}{s:Shared}{l:Addr}{xs:List V} (I:Inv X pins σ H s) (hH:RdK X.K H l xs):xs.length<=sizeLine/\∃ (its:List Value) (n:Nat),Vals xs its/\xs.length=its.length/\s.heap.get? l=some { cls:=.type "list", data:=.seq its.toArray n }:=by
 rcases hH with hH | ⟨its,n,h1,h2,h3⟩
 ·obtain ⟨z,its,n,r,e⟩:=hH.ok I.hok
  exact ⟨z,its,n,r,r.length,e⟩
 ·exact ⟨by rw [h2.length];exact h3,its,n,h2,h2.length,I.kIn l _ h1⟩
theorem jg' {i:Nat}{x:Str}{p1 apos cpos:Pos} (hv:PE X (.Name x p1) (tVar i)) (ha:ED X B e ga) (hs:swapsWith (.Call (.Attribute (.Name x p1) "append" apos) [e] [] cpos) none pos.line X.env=pure false:=by rfl)
  (hse:starEach [e] X.env=(false,eval e X.env)::starEach [] X.env:=by rfl)
  (hbase:attributeBase (.Name x p1) "append" X.env (eval (.Name x p1) X.env)=eval (.Name x p1) X.env:=by rfl)
  (hfew:((backTo cpos (starEach [e] X.env)).all (λx=>!x.1)&&(backToKw cpos (keywordEach [] X.env)).all (λx=>x.1.isSome)
   &&decide ([e].length+([]:List Keyword).length+(if ([]:List Keyword).isEmpty then 0 else 1) < 30))=true:=by rfl)
  (hline:(apos.endLine == cpos.line)=true:=by rfl) (hplain:(backTo cpos (starEach [] X.env)).any (·.1)=false:=by rfl) :
  SD X B (.Expr (.Call (.Attribute (.Name x p1) "append" apos) [e] [] cpos) pos) (appS i ga) :=
 PS.imp (hE' (lK' PySem.F.plainAttrs_list PySem.F.slot_list_append PySem.F.type_list_append ij' hv (d1' ha gB' hse) hbase hfew hline hse hplain) hs) λE σ H q=>by
  obtain ⟨G,I,Γ,f,Γ',r,e1,k⟩:=q
  obtain ⟨hm,e1⟩:=cJ' e1
  obtain ⟨d1,Γ1,e2,e3⟩:=ae' e1
  obtain ⟨d2,Γ2,e4,e5⟩:=ae' e3
  cases e5
  obtain ⟨p,xs,h1,h2⟩:=cQ' hm r
  refine ⟨_,h1,.inl ⟨rfl,xs,SqL.of h2⟩,G,I,Γ,d1,Γ1,r,e2,λv H1 I1 r1 g1 hd=>?_⟩
  obtain ⟨p',xs',ds,es,h3,h4,h5,h6,h7⟩:=gH' e4 r1
  have hp:p'=p:=by rw [h1] at h3;cases h3;rfl
  subst hp
  obtain ⟨hl,rfl⟩:=aw' h6
  refine ⟨p',xs',v,rfl,rfl,h4,?_,k σ _ I1 (h7 _ (IsA.append h5 (IsA.cons hd IsA.nil))) g1⟩
  rw [← h5.length]
  exact Nat.lt_of_lt_of_le hl (dz' (Nat.le_refl _))
def asI (d:D):Option Int:=match d with
 | .int i=>some i
 | _=>none
theorem k6' {d:D}{i:Int} (h:asI d=some i):d=.int i:=by
 cases d<;>simp [asI] at h
 rw [h]
def stF (k:Int) (d:D) (ds:List D):Option (List D):=(ixN ds.length k).map λj=>ds.set j d
def stS (i:Nat) (gi gv:M D):M Fl:=bnd gv λd=>mutS i (bnd gi λn=>bnd (lft (asI n)) λk=>bnd (wr i (stF k d)) λ_=>ret .nx)
theorem i2' {i:Nat}{x:Str}{p1 p2:Pos}{ie:Expr}{gi:M D} (hv:PE X (.Name x p1) (tVar i)) (hi:ED X B ie gi) (he:ED X B e ga)
  (ha:∀ v,assign (.Subscript (.Name x p1) ie p2) X.env v=(do
   let ov ← holding [v] (eval (.Name x p1) X.env)
   let iv ← holding [v,ov] (eval ie X.env)
   standAt p2
   holding [v,ov,iv] (setItem ov iv v)
   release [v,ov,iv] []):=by intro _;rfl)
  (hs:swapsWithSole [.Subscript (.Name x p1) ie p2] e pos.line X.env=pure false:=by rfl) (hw:swappedStores [.Subscript (.Name x p1) ie p2] e X.env=pure none:=by rfl)
  (h1:(assignEach [.Subscript (.Name x p1) ie p2] X.env).map (·.2)=[assign (.Subscript (.Name x p1) ie p2) X.env]:=by rfl) :
  SD X B (.Assign [.Subscript (.Name x p1) ie p2] e pos) (stS i gi ga):=PS.imp (mC' he (qP' hv hi om' ha) hs hw h1) λE σ H q=>by
 obtain ⟨G,I,Γ,f,Γ',r,e1,k⟩:=q
 obtain ⟨d,Γ1,e2,e3⟩:=ae' e1
 obtain ⟨hm,e3⟩:=cJ' e3
 obtain ⟨n,Γ2,e4,e5⟩:=ae' e3
 obtain ⟨z,Γ3,e6,e7⟩:=ae' e5
 obtain ⟨e8,rfl⟩:=ao' e6
 obtain ⟨u,Γ4,f1,f2⟩:=ae' e7
 cases f2
 have:=k6' e8
 subst this
 refine ⟨G,I,Γ,d,Γ1,r,e2,λv H1 I1 r1 g1 hd=>?_⟩
 obtain ⟨p,xs,h1,h2⟩:=cQ' hm r1
 refine ⟨_,h1,G,I1,Γ1,_,_,r1,e4,λw H2 I2 r2 g2 hw=>?_⟩
 obtain ⟨p',xs',ds,es,h3,h4,h5,h6,h7⟩:=gH' f1 r2
 have hp:p'=p:=by rw [h1] at h3;cases h3;rfl
 subst hp
 unfold stF at h6
 cases hj:ixN ds.length z with
 | none=>rw [hj] at h6;cases h6
 | some j =>
  rw [hj] at h6
  cases h6
  exact ⟨p',xs',z,j,rfl,am' hw,h4,by rw [← h5.length];exact hj,k σ _ I2 (h7 _ (IsA.set (hd.mono g2.up) j h5)) (g1.trans g2)⟩
def Yields (K:PySem.W.Frag) (I:Hp) (ds:List D) (J:It):Prop:=∀ (i:Nat) (H1:Hp),Same I H1 →
 (∀ d,ds[i]?=some d->J.go i H1/\∀ x H2,J.yld i H1 x H2->(H2=H1/\Is K I d x)\/(∃ p es xs,d=.tup es/\x=.ref p/\H1 p=none/\H2=upd H1 p (.tup xs)/\IsA K I es xs))/\(ds.length<=i->J.stop i H1)
def tI (K:PySem.W.Frag) (B:BB) (g:M (List D)):TI:=λσ H R=>∃ G I Γ ds Γ',Rep K B G I H σ Γ/\g Γ=some (ds,Γ')/\∀ J H' I',Rep K B G I' H' σ Γ'->Grow G I I'->Yields K I' ds J->R J H'
def ITD (X:Cx) (B:BB) (tg iter:Expr) (g:M (List D)):Prop:=PI X tg iter (tI X.K B g)
theorem re' {tg l:Expr}{tl:TE} (hl:PE X l tl):PI X tg l (λσ H R=>tl σ H λx H1=>(∃ a,x=.ref a/\(∃ xs,SqL X.K H1 a xs)/\R (Itl X.K a) H1)\/(∃ a,x=.ref a/\(∃ xs,SqT X.K H1 a xs)/\R (Itt X.K a) H1)):=by
 intro pins s σ H R I h
 refine thn (hl pins s σ H _ I h) λv s1 ⟨x,H1,I1,r1,q1⟩=>?_
 rcases q1 with ⟨a,e,⟨xs,hq⟩,q⟩ | ⟨a,e,⟨xs,hq⟩,q⟩
 ·subst e
  cases r1
  obtain ⟨its,rv,p,hz⟩:=I1.list hq
  refine wpAny_pyIter_list p.isList ?_
  refine ⟨s1.heap.objs.size,[s1.heap.objs.size],_,_,H1,rfl,I1.kept (t':=s1.toks) λb o e=>Heap.get?_push_of_some _ e,mD' a _,⟨_,Heap.get?_push_size _ rfl,rfl,rfl⟩,λb hb=>?_,q⟩
  have e:b=s1.heap.objs.size:=by simpa using hb
  subst e
  exact I1.fpOk (Nat.le_refl _) (I1.hok.fresh (Nat.le_refl _))
 ·subst e
  cases r1
  obtain ⟨its,rv,p,hz⟩:=I1.tuple hq
  refine wpAny_pyIter_tuple (show s1.heap.IsTuple a its.toArray from p) ?_
  refine ⟨s1.heap.objs.size,[s1.heap.objs.size],_,_,H1,rfl,I1.kept (t':=s1.toks) λb o e=>Heap.get?_push_of_some _ e,lE' a _,⟨_,Heap.get?_push_size _ rfl,rfl,rfl⟩,λb hb=>?_,q⟩
  have e:b=s1.heap.objs.size:=by simpa using hb
  subst e
  exact I1.fpOk (Nat.le_refl _) (I1.hok.fresh (Nat.le_refl _))
def seqI (d:D):Option (List D):=match d with
 | .lst ds=>some ds
 | .tup ds=>some ds
 | _=>none
def itS (g:M D):M (List D):=bnd g λd=>lft (seqI d)
theorem bi' {tg:Expr} (ha:ED X B a ga):ITD X B tg a (itS ga):=PI.imp (re' ha) λσ H R q=>by
 obtain ⟨G,I,Γ,ds,Γ',r,e1,k⟩:=q
 obtain ⟨d,Γ1,e2,e3⟩:=ae' e1
 obtain ⟨e4,rfl⟩:=ao' e3
 refine ⟨G,I,Γ,d,_,r,e2,λv H1 I1 r1 g1 hd=>?_⟩
 cases d with
 | lst es =>
  cases e4
  obtain ⟨l,xs,rfl,h1,h2⟩:=aB' hd
  refine .inl ⟨l,rfl,⟨xs,(Same.rdK r1.iH h1).sq⟩,k _ _ _ r1 g1 λi H2 s2=>⟨λd hd=>?_,λhi=>⟨xs,(Same.rdK s2 h1).sq,by rw [← h2.length];exact hi⟩⟩⟩
  obtain ⟨x,e5,e6⟩:=h2.get hd
  refine ⟨⟨xs,x,(Same.rdK s2 h1).sq,e5⟩,λy H3 hy=>.inl ⟨hy.1,?_⟩⟩
  have:=hy.2 xs ((Same.rdK s2 h1).sq)
  rw [e5] at this;cases this
  exact e6
 | tup es =>
  cases e4
  obtain ⟨l,xs,rfl,h1,h2⟩:=as' hd
  refine .inr ⟨l,rfl,⟨xs,Same.sqT r1.iH h1⟩,k _ _ _ r1 g1 λi H2 s2=>⟨λd hd=>?_,λhi=>⟨xs,Same.sqT s2 h1,by rw [← h2.length];exact hi⟩⟩⟩
  obtain ⟨x,e5,e6⟩:=h2.get hd
  refine ⟨⟨xs,x,Same.sqT s2 h1,e5⟩,λy H3 hy=>.inl ⟨hy.1,?_⟩⟩
  have:=hy.2 xs (Same.sqT s2 h1)
  rw [e5] at this;cases this
  exact e6
 | _=>cases e4
def rngD (lo:Int) (n:Nat):List D:=(List.range n).map λ(k:Nat)=>D.int (lo+(k:Int))
theorem gI' {K:PySem.W.Frag}{I:Hp} (lo:Int) (n:Nat):Yields K I (rngD lo n) (Itr lo n):=λi H1 s1=>by
 refine ⟨λd hd=>?_,λhi=>?_⟩
 ·unfold rngD at hd
  rw [List.getElem?_map] at hd
  cases e:(List.range n)[i]? with
  | none=>rw [e] at hd;cases hd
  | some j =>
   rw [e] at hd
   cases hd
   obtain ⟨h1,h2⟩:=List.getElem?_eq_some_iff.mp e
   rw [List.getElem_range] at h2
   rw [List.length_range] at h1
   subst h2
   refine ⟨h1,λx H2 hy=>.inl ⟨hy.1,?_⟩⟩
   rw [hy.2]
   exact Is.int _
 ·unfold rngD at hi
  rw [List.length_map,List.length_range] at hi
  exact hi
def rngI1 (ds:List D):Option (List D):=match ds with
 | [.int j]=>if -1000000<=j/\j<=1000000 then some (rngD 0 j.toNat) else none
 | _=>none
def rngI2 (ds:List D):Option (List D):=match ds with
 | [.int i,.int j]=>if (-1000000<=i/\i<=1000000)/\-1000000<=j/\j<=1000000 then some (rngD i (j - i).toNat) else none
 | _=>none
theorem mW' {ds es:List D} (h:rngI1 ds=some es):∃ j:Int,ds=[.int j]/\(-1000000<=j/\j<=1000000)/\es=rngD 0 j.toNat:=by
 unfold rngI1 at h
 split at h
 ·obtain ⟨h1,h2⟩:=aw' h
  exact ⟨_,rfl,h1,h2⟩
 ·cases h
theorem mX' {ds es:List D} (h:rngI2 ds=some es):∃ i j:Int,ds=[.int i,.int j]/\((-1000000<=i/\i<=1000000)/\-1000000<=j/\j<=1000000)/\es=rngD i (j - i).toNat:=by
 unfold rngI2 at h
 split at h
 ·obtain ⟨h1,h2⟩:=aw' h
  exact ⟨_,_,rfl,h1,h2⟩
 ·cases h
theorem dg' {tg:Expr}{p:Pos}{t:M (List D)} (hg:Gl X "range") (hm:X.mg "range"=none) (ha:AD X B [a] t) (hs:starEach [a] X.env=[(false,eval a X.env)]:=by rfl):ITD X B tg (.Call (.Name "range" p) [a] [] pos) (fn1 rngI1 t) :=
 PI.imp (mE' hg hm ha hs) λσ H R q=>by
  obtain ⟨G,I,Γ,ds,Γ',r,e1,k⟩:=q
  obtain ⟨d,Γ1,e2,e3⟩:=ae' e1
  obtain ⟨e4,rfl⟩:=ao' e3
  obtain ⟨j,rfl,⟨h1,h2⟩,rfl⟩:=mW' e4
  refine ⟨G,I,Γ,_,_,r,e2,λvs H1 I1 r1 g1 hd=>?_⟩
  obtain ⟨x,rfl,hx⟩:=hd.one
  exact ⟨j,by rw [am' hx],by omega,by omega,k _ _ _ r1 g1 (gI' _ _)⟩
theorem jh' {tg:Expr}{p:Pos}{t:M (List D)} (hg:Gl X "range") (hm:X.mg "range"=none) (ha:AD X B [a,b] t) (hs:starEach [a,b] X.env=[(false,eval a X.env),(false,eval b X.env)]:=by rfl) (hs2:starEach [b] X.env=[(false,eval b X.env)]:=by rfl) :
  ITD X B tg (.Call (.Name "range" p) [a,b] [] pos) (fn1 rngI2 t) :=
 PI.imp (mF' hg hm ha hs hs2) λσ H R q=>by
  obtain ⟨G,I,Γ,ds,Γ',r,e1,k⟩:=q
  obtain ⟨d,Γ1,e2,e3⟩:=ae' e1
  obtain ⟨e4,rfl⟩:=ao' e3
  obtain ⟨i,j,rfl,h1,rfl⟩:=mX' e4
  refine ⟨G,I,Γ,_,_,r,e2,λvs H1 I1 r1 g1 hd=>?_⟩
  obtain ⟨x,y,rfl,hx,hy⟩:=hd.two
  exact ⟨i,j,by rw [am' hx,am' hy],by omega,k _ _ _ r1 g1 (gI' _ _)⟩
def forM (tgt:D->M Unit) (body:M Fl):List D->M Fl
 | []=>ret .nx
 | d::ds=>bnd (tgt d) λ_=>bnd body λf=>match f with
  | .nx=>forM tgt body ds
  | .ct=>forM tgt body ds
  | .bk=>ret .nx
  | .rt r=>ret (.rt r)
def forS (it:M (List D)) (tgt:D->M Unit) (body:M Fl):M Fl:=bnd it λds=>forM tgt body ds
theorem rf' {m:Nat}{iter tg:Expr}{body:List Stmt}{it:M (List D)}{tgt:D->M Unit} (hp:PassesOwn (model X.prog X.w) X.A X.env X.xe) (hc:X.calm=true) (hi:ITD X B tg iter it) (hg:GD X B m tg tgt) (hb:SDs X B body g)
  (hs:∀ x,foldedSetIterable iter X.env x=pure x:=by intro _;rfl):SD X B (.For tg iter body [] pos) (forS it tgt g):=PS.imp (qQ' hp hc hi hg hb hs) λE σ H q=>by
 obtain ⟨G,I,Γ,f,Γ',r,e1,k⟩:=q
 obtain ⟨ds,Γ1,e2,e3⟩:=ae' e1
 refine ⟨G,I,Γ,ds,Γ1,r,e2,λJ H1 I1 r1 g1 y=>?_⟩
 refine ⟨λi m σ H=>∃ I2 Γ2,Rep X.K B G I2 H σ Γ2/\Grow G I1 I2/\forM tgt g (ds.drop i) Γ2=some (f,Γ')/\i<=ds.length/\m=ds.length - i,⟨ds.length,I1,Γ1,r1,Grow.refl _ _,by simpa using e3,Nat.zero_le _,rfl⟩,?_⟩
 rintro i m' σ2 H2 ⟨I2,Γ2,r2,g2,e4,hi',rfl⟩
 obtain ⟨yg,ys⟩:=y i H2 (g2.up.trans r2.iH)
 by_cases hlt:i < ds.length
 ·have hd:ds.drop i=ds[i]::ds.drop (i+1):=List.drop_eq_getElem_cons hlt
  obtain ⟨go,yld⟩:=yg ds[i] (List.getElem?_eq_getElem hlt)
  rw [hd] at e4
  obtain ⟨u,Γ3,e5,e6⟩:=ae' e4
  obtain ⟨fl,Γ4,e7,e8⟩:=ae' e6
  refine .inr ⟨go,λσ' H'=>∃ I3,Rep X.K B G I3 H' σ' Γ4/\Grow G I1 I3/\(fl=.nx\/fl=.ct),λσ' H' ⟨I3,r3,g3,hf⟩=>⟨ds.length - (i+1),by omega,I3,Γ4,r3,g3,?_,hlt,rfl⟩,λx H3 hy=>?_⟩
  ·rcases hf with rfl | rfl<;>exact e8
  ·have go2:∀ I3,Rep X.K B G I3 H3 σ2 Γ2->Grow G I2 I3->Is X.K I3 ds[i] x->tGD X.K B m tgt x σ2 H3 λσ2 H2=>tS X.K B g { E with nx:=λσ' H'=>∃ I3,Rep X.K B G I3 H' σ' Γ4/\Grow G I1 I3/\(fl=.nx\/fl=.ct),ct:=λσ' H'=>∃ I3,Rep X.K B G I3 H' σ' Γ4/\Grow G I1 I3/\(fl=.nx\/fl=.ct),bk:=E.nx } σ2 H2:=by
    intro I3 r3 g3 hx
    refine ⟨G,I3,Γ2,ds[i],Γ3,r3,hx,e5,λσ4 H4 I4 r4 g4 _=>⟨G,I4,Γ3,fl,Γ4,r4,e7,λσ5 H5 I5 r5 g5=>?_⟩⟩
    have gg:Grow G I1 I5:=g2.trans (g3.trans (g4.trans g5))
    cases fl with
    | nx=>exact ⟨I5,r5,gg,.inl rfl⟩
    | ct=>exact ⟨I5,r5,gg,.inr rfl⟩
    | bk=>cases e8;exact k σ5 H5 I5 r5 (g1.trans gg)
    | rt v=>cases e8;exact k σ5 H5 I5 r5 (g1.trans gg)
   rcases yld x H3 hy with ⟨rfl,hx⟩ | ⟨p,es,xs,hd2,rfl,hp2,rfl,hx⟩
   ·exact go2 I2 r2 (Grow.refl _ _) (hx.mono g2.up)
   ·refine go2 _ (r2.alloc hp2 _) (r2.growAlloc hp2 _) ?_
    rw [hd2]
    exact Is.tup (SqT.of av') ((hx.mono g2.up).mono (aS' (r2.iFree hp2) _))
 ·have hi2:i=ds.length:=by omega
  subst hi2
  rw [List.drop_length] at e4
  cases e4
  exact .inl ⟨ys (Nat.le_refl _),k σ2 H2 I2 r2 (g1.trans g2)⟩
end
end DL
namespace DL
open PySem PySem.Spec PyProof.Rows L2
def fin:List R->Gm->Option (List R)
 | [],_=>some []
 | .val d::rs,_::Γ=>match fin rs Γ with
  | some l=>some (.val d::l)
  | none=>none
 | .bor _::rs,some (.bor ds)::Γ=>match fin rs Γ with
  | some l=>some (.bor ds::l)
  | none=>none
 | _,_=>none
def flR:Fl->Option R
 | .rt r=>some r
 | .nx=>some (.val .non)
 | _=>none
def fnD1 (n:Nat) (body:M Fl) (rs:List R):Option (R×List R) :=
 match body (rs.map some++List.replicate (n - rs.length) none) with
 | some (f,Γ')=>match flR f with
  | some r=>match fin rs Γ' with
   | some l=>some (r,l)
   | none=>none
  | none=>none
 | none=>none
def fnD (n ar:Nat) (body:M Fl) (rs:List R):Option (R×List R):=if rs.length=ar then fnD1 n body rs else none
def noOwn:R->Bool
 | .own _=>false
 | _=>true
def vB (vs:List V):BB:=λi=>(vs.map some)[i]?
def spD (K:PySem.W.Frag) (g:List R->Option (R×List R)):Sp:=λvs H Q _=>∃ (G I:Hp) (rs:List R) (r:R) (rs':List R),Rep K (vB vs) G I H (vs.map some) (rs.map some)/\rs.all noOwn=true/\g rs=some (r,rs') ∧
 ∀ v H' I',Rep K (vB vs) G I' H' (vs.map some) (rs'.map some)->Grow G I I'->ResOk K G I' H' (vs.map some) (rs'.map some) r v->Q v H'
theorem hH':∀ {rs l:List R}{Γ:Gm},fin rs Γ=some l->l.length=rs.length/\∀ (i:Nat) (r:R),l[i]?=some r->(∃ d,r=.val d/\rs[i]?=some (.val d))\/(∃ ds,r=.bor ds/\Γ[i]?=some (some (.bor ds)))
 | [],l,Γ,h=>by
  rw [fin] at h;cases h
  exact ⟨rfl,λi r e=>by simp at e⟩
 | .val d::rs,l,[],h=>by simp [fin] at h
 | .bor d::rs,l,[],h=>by simp [fin] at h
 | .own d::rs,l,Γ,h=>by cases Γ<;>simp [fin] at h
 | .fro d::rs,l,Γ,h=>by cases Γ<;>simp [fin] at h
 | .dic d::rs,l,Γ,h=>by cases Γ<;>simp [fin] at h
 | .val d::rs,l,o::Γ,h=>by
  rw [fin] at h
  cases e:fin rs Γ with
  | none=>rw [e] at h;cases h
  | some l' =>
   rw [e] at h;cases h
   obtain ⟨h1,h2⟩:=hH' e
   refine ⟨by simp [h1],λi r er=>?_⟩
   cases i with
   | zero=>simp at er;subst er;exact .inl ⟨d,rfl,rfl⟩
   | succ i =>
    rcases h2 i r (by simpa using er) with ⟨d',e1,e2⟩ | ⟨ds,e1,e2⟩
    ·exact .inl ⟨d',e1,by simpa using e2⟩
    ·exact .inr ⟨ds,e1,by simpa using e2⟩
 | .bor d::rs,l,none::Γ,h=>by simp [fin] at h
 | .bor d::rs,l,some (.val x)::Γ,h=>by simp [fin] at h
 | .bor d::rs,l,some (.own x)::Γ,h=>by simp [fin] at h
 | .bor d::rs,l,some (.fro x)::Γ,h=>by simp [fin] at h
 | .bor d::rs,l,some (.dic x)::Γ,h=>by simp [fin] at h
 | .bor d::rs,l,some (.bor x)::Γ,h=>by
  rw [fin] at h
  cases e:fin rs Γ with
  | none=>rw [e] at h;cases h
  | some l' =>
   rw [e] at h;cases h
   obtain ⟨h1,h2⟩:=hH' e
   refine ⟨by simp [h1],λi r er=>?_⟩
   cases i with
   | zero=>simp at er;subst er;exact .inr ⟨x,rfl,rfl⟩
   | succ i =>
    rcases h2 i r (by simpa using er) with ⟨d',e1,e2⟩ | ⟨ds,e1,e2⟩
    ·exact .inl ⟨d',e1,by simpa using e2⟩
    ·exact .inr ⟨ds,e1,by simpa using e2⟩
theorem getMap {α β:Type}{f:α->β}{l:List α}{i:Nat}{b:β} (h:(l.map f)[i]?=some b):∃ a,l[i]?=some a/\b=f a:=by
 rw [List.getElem?_map] at h
 cases e:l[i]? with
 | none=>rw [e] at h;cases h
 | some a=>rw [e] at h;exact ⟨a,rfl,(Option.some.inj h).symm⟩
theorem fN' {α:Type}{l:List α}{n i:Nat}{a:α} (h:(l.map some++List.replicate n (none:Option α))[i]?=some (some a)):l[i]?=some a:=by
 by_cases hi:i < (l.map some).length
 ·rw [List.getElem?_append_left hi] at h
  obtain ⟨b,e1,e2⟩:=getMap h
  cases e2;exact e1
 ·rw [List.getElem?_append_right (by omega),List.getElem?_replicate] at h
  split at h<;>cases h
section
variable {P:Program}{w:World}{K:PySem.W.Frag}{mg:Str->Option Value}{base:Heap}
theorem aW' {x qual:Str}{st:Stmt}{f:Addr}{fd:FuncData}{N ps:List Str}{k:Nat} (F:Fun K x qual st f fd) (S:FnScope N ps (defScope st)) (g:M Fl)
  (hb:∀ (cdv:Value) (A:Around) (outer:List Env) (s:Shared) (H:Hp) (E:XK) (B:BB),Room k (A.deeper (envOfC qual (defScope st) s.heap.objs.size f cdv)) →
   SDs (cxOf CX0 P w K mg base N qual (defScope st) f cdv A outer s H E).nox B (defBody st) g):FnOk P w K mg base CX0 (k+1) f fd ps (spD K (fnD N.length ps.length g)):=by
 refine F.ok S (λvs H Q E h=>?_) (λcdv A outer s H vs Q E hr h=>?_)
 ·obtain ⟨_,_,rs,_,_,h1,_,h2,_⟩:=h
  unfold fnD at h2
  by_cases hc:rs.length=ps.length
  ·rw [← hc];simpa using h1.len
  ·rw [if_neg hc] at h2;cases h2
 ·obtain ⟨G,I,rs,r,rs',h2,h3,h4,h5⟩:=h
  have hl:vs.length=rs.length:=by simpa using h2.len
  refine ⟨_,hb cdv A outer s H E (λi=>(L2.start N vs)[i]?) hr,?_⟩
  unfold fnD at h4
  have hc:rs.length=ps.length:=by
   by_cases hc:rs.length=ps.length
   ·exact hc
   ·rw [if_neg hc] at h4;cases h4
  rw [if_pos hc] at h4
  unfold fnD1 at h4
  cases e1:g (rs.map some++List.replicate (N.length - rs.length) none) with
  | none=>rw [e1] at h4;cases h4
  | some q =>
   obtain ⟨fl,Γ'⟩:=q
   rw [e1] at h4
   dsimp only at h4
   cases e2:flR fl with
   | none=>rw [e2] at h4;cases h4
   | some rr =>
    rw [e2] at h4
    dsimp only at h4
    cases e3:fin rs Γ' with
    | none=>rw [e3] at h4;cases h4
    | some l =>
     rw [e3] at h4
     obtain ⟨rfl,rfl⟩:rr=r/\l=rs':=by cases h4;exact ⟨rfl,rfl⟩
     have stv:∀ {i:Nat}{v:V},vs[i]?=some v->(L2.start N vs)[i]?=some (some v):=λ{i v} e=>by
      unfold L2.start
      rw [List.getElem?_append_left (by rw [List.length_map];exact (List.getElem?_eq_some_iff.mp e).1),List.getElem?_map,e];rfl
     have vst:∀ {i:Nat}{v:V},(L2.start N vs)[i]?=some (some v)->vs[i]?=some v:=λ{i v} e=>fN' e
     have rep0:Rep K (λi=>(L2.start N vs)[i]?) G I H (L2.start N vs) (rs.map some++List.replicate (N.length - rs.length) none):={
      iH:=h2.iH,gH:=h2.gH
      len:=by unfold L2.start;rw [List.length_append,List.length_append,List.length_map,List.length_map,List.length_replicate,List.length_replicate,hl]
      slot:=λi q e=>by
       have e':=fN' e
       obtain ⟨v,e4,e5⟩:=h2.slot i q (by rw [List.getElem?_map,e'];rfl)
       obtain ⟨v',e6,e7⟩:=getMap e4
       cases e7
       exact ⟨v,stv e6,e5⟩
      dist:=λi j q q' v e e' m m' s1 s2=>h2.dist i j q q' v (by rw [List.getElem?_map,fN' e];rfl) (by rw [List.getElem?_map,fN' e'];rfl) m m' (by rw [List.getElem?_map,vst s1];rfl) (by rw [List.getElem?_map,vst s2];rfl)
      bor:=λi ds e=>rfl }
     obtain ⟨f1,f2⟩:=hH' e3
     -- behind the body
     have back:∀ {σ':L2.St}{H' I':Hp},Rep K (λi=>(L2.start N vs)[i]?) G I' H' σ' Γ'->Grow G I I'->Rep K (vB vs) G I' H' (vs.map some) (l.map some):=λ{σ' H' I'} r' g'=>{
      iH:=r'.iH,gH:=r'.gH
      len:=by rw [List.length_map,List.length_map,f1,hl]
      slot:=λi q e=>by
       obtain ⟨q',e4,e5⟩:=getMap e
       cases e5
       rcases f2 i q e4 with ⟨d,rfl,e6⟩ | ⟨ds,rfl,e6⟩
       ·obtain ⟨v,e7,e8⟩:=h2.slot i (.val d) (by rw [List.getElem?_map,e6];rfl)
        exact ⟨v,e7,Is.mono g'.up e8⟩
       ·obtain ⟨v,e7,e8⟩:=r'.slot i _ e6
        have e9:=r'.bor i ds e6
        rw [e7] at e9
        exact ⟨v,by rw [List.getElem?_map,vst e9.symm];rfl,e8⟩
      dist:=λi j q q' v e e' m m' s1 s2=>by
       obtain ⟨_,e4,e5⟩:=getMap e
       cases e5
       obtain ⟨_,e6,e7⟩:=getMap e'
       cases e7
       rcases f2 i q e4 with ⟨d,rfl,_⟩ | ⟨ds,rfl,e8⟩
       ·cases m
       rcases f2 j q' e6 with ⟨d,rfl,_⟩ | ⟨ds',rfl,e9⟩
       ·cases m'
       obtain ⟨v1,a1,_⟩:=getMap s1
       obtain ⟨v2,a2,a3⟩:=getMap s2
       have b1:=r'.bor i ds e8
       have b2:=r'.bor j ds' e9
       rename_i b3
       cases b3
       cases a3
       rw [stv a1] at b1
       rw [stv a2] at b2
       exact r'.dist i j _ _ v e8 e9 rfl rfl b1 b2
      bor:=λi ds e=>rfl }
     have ap:∀ {σ':L2.St}{H' I':Hp}{p:Addr},Rep K (λi=>(L2.start N vs)[i]?) G I' H' σ' Γ'->Apart σ' Γ' p->Apart (vs.map some) (l.map some) p:=λ{σ' H' I' p} r' a i q e m z=>by
      obtain ⟨_,e4,e5⟩:=getMap e
      cases e5
      rcases f2 i q e4 with ⟨d,rfl,_⟩ | ⟨ds,rfl,e8⟩
      ·cases m
      obtain ⟨v1,a1,a2⟩:=getMap z
      cases a2
      exact a i _ e8 rfl ((r'.bor i ds e8).trans (stv a1))
     refine ⟨G,I,_,fl,Γ',rep0,e1,λσ' H' I' r' g'=>?_⟩
     cases fl with
     | nx=>cases e2;exact h5 _ H' I' (back r' g') g' (show Is K I' D.non V.non from Is.non)
     | bk=>cases e2
     | ct=>cases e2
     | rt r0 =>
      cases e2
      intro v hv
      refine h5 v H' I' (back r' g') g' ?_
      cases rr with
      | val d=>exact hv
      | bor d=>exact hv
      | fro d=>exact hv
      | dic d =>
       obtain ⟨p,xs,b1,b2,b3,b4,b5,b6⟩:=hv
       exact ⟨p,xs,b1,b2,b3,b4,ap r' b5,b6⟩
      | own d =>
       obtain ⟨p,xs,b1,b2,b3,b4,b5,b6⟩:=hv
       exact ⟨p,xs,b1,b2,b3,b4,ap r' b5,b6⟩
end
mutual
def noL:D->Bool
 | .tup ds=>noLA ds
 | .lst _=>false
 | _=>true
def noLA:List D->Bool
 | []=>true
 | d::ds=>noL d&&noLA ds
end
def tupOf (I0 I:Hp):Hp:=λb=>match I0 b with
 | some o=>some o
 | none=>match I b with
  | some (.lst _)=>none
  | o=>o
theorem ji' {I0 I:Hp}:Same I0 (tupOf I0 I):=λb o e=>by unfold tupOf;rw [e]
theorem f7' {I0 I:Hp}{b:Addr}{o:HO} (h:tupOf I0 I b=some o):I0 b=some o\/(I0 b=none/\I b=some o/\∀ xs,o≠.lst xs):=by
 unfold tupOf at h
 cases e:I0 b with
 | some o'=>rw [e] at h;cases h;exact .inl rfl
 | none =>
  rw [e] at h
  cases e1:I b with
  | none=>rw [e1] at h;cases h
  | some o' =>
   rw [e1] at h
   cases o'<;>first | (cases h;exact .inr ⟨rfl,rfl,λxs z=>by cases z⟩) | cases h
theorem jj' {I0 I:Hp} (s:Same I0 I){b:Addr}{o:HO} (h:I b=some o) (n:∀ xs,o≠.lst xs):tupOf I0 I b=some o:=by
 unfold tupOf
 cases e:I0 b with
 | some o'=>rw [s b o' e] at h;exact h
 | none =>
  simp only [h]
  split
  ·rename_i z
   cases z
   exact absurd rfl (n _)
  ·rfl
mutual
theorem ot' {K:PySem.W.Frag}{I0 I:Hp} (s:Same I0 I):∀ (d:D) (v:V),noL d=true->Is K I d v->Is K (tupOf I0 I) d v
 | .non,_,_,h=>by rw [Is] at h ⊢;exact h
 | .bl _,_,_,h=>by rw [Is] at h ⊢;exact h
 | .int _,_,_,h=>by rw [Is] at h ⊢;exact h
 | .str _,_,_,h=>by rw [Is] at h ⊢;exact h
 | .lst _,_,n,_=>by simp [noL] at n
 | .tup ds,v,n,h=>by
  rw [noL] at n
  obtain ⟨a,xs,rfl,h1,h2⟩:=as' h
  refine Is.tup ?_ (fj' s ds xs n h2)
  rcases h1 with (h1 | ⟨o,h1⟩) | h1
  ·exact .inl (.inl (jj' s h1 λxs z=>by cases z))
  ·exact .inl (.inr ⟨o,jj' s h1 λxs z=>by cases z⟩)
  ·exact .inr h1
theorem fj' {K:PySem.W.Frag}{I0 I:Hp} (s:Same I0 I):∀ (ds:List D) (xs:List V),noLA ds=true->IsA K I ds xs->IsA K (tupOf I0 I) ds xs
 | [],xs,_,h=>by rw [h.nil_inv];exact IsA.nil
 | d::ds,xs,n,h=>by
  rw [noLA,Bool.and_eq_true] at n
  obtain ⟨x,r,rfl,h1,h2⟩:=h.cons_inv
  exact IsA.cons (ot' s d x n.1 h1) (fj' s ds r n.2 h2)
end
section
variable {X:Cx}{B:BB}{e:Expr}{es:List Expr}{pos p:Pos}{x:Str}{k:Nat}{f:Addr}{fd:FuncData}{ps:List Str}{g:List R->Option (R×List R)}{t:M (List D)}
def cvF (g:List R->Option (R×List R)) (ds:List D):Option D:=match g (ds.map .val) with
 | some (.val d,_)=>some d
 | some (.fro d,_)=>some (.lst d)
 | _=>none
def coF (g:List R->Option (R×List R)) (ds:List D):Option (List D):=match g (ds.map .val) with
 | some (.own d,_)=>some d
 | some (.fro d,_)=>if noLA d=true then some d else none
 | _=>none
theorem dh' {K:PySem.W.Frag}{G I H:Hp}{σ:L2.St}{Γ:Gm}{ds:List D}{vs:List V} (r:Rep K B G I H σ Γ) (h:IsA K I ds vs):Rep K (vB vs) H I H (vs.map some) ((ds.map R.val).map some) where
 iH:=r.iH
 gH:=Same.refl _
 len:=by rw [List.length_map,List.length_map,List.length_map,h.length]
 slot:=λi q e=>by
  obtain ⟨_,e1,e2⟩:=getMap e
  cases e2
  obtain ⟨d,e3,rfl⟩:=getMap e1
  obtain ⟨v,e4,e5⟩:=h.get e3
  exact ⟨v,by rw [List.getElem?_map,e4];rfl,e5⟩
 dist:=λi j q q' v e e' m=>by
  obtain ⟨_,e1,e2⟩:=getMap e
  cases e2
  obtain ⟨d,e3,rfl⟩:=getMap e1
  cases m
 bor:=λi ds e=>rfl
theorem co' (ds:List D):(ds.map R.val).all noOwn=true:=by
 induction ds with
 | nil=>rfl
 | cons d r ih=>rw [List.map_cons,List.all_cons,ih];rfl
theorem dR' {K:PySem.W.Frag}{B':BB}{G I I' H H':Hp}{σ σ':L2.St}{Γ Γ':Gm} (r:Rep K B G I H σ Γ) (r':Rep K B' H I' H' σ' Γ') (g':Grow H I I'):Rep K B G I' H' σ Γ/\Grow G I I' :=
 ⟨r.ext g'.up r'.gH r'.iH g'.new,g'.up,λb o e=>(g'.new b o e).imp (λz=>z) λz=>r.gFree z⟩
theorem t_cv {K:PySem.W.Frag}{E:XK}:∀ σ H Q,tD K B (fn1 (cvF g) t) σ H Q->tCall (spD K g) [] E (tAD K B t) σ H Q:=λσ H Q q=>by
 obtain ⟨G,I,Γ,d,Γ',r,e1,kk⟩:=q
 obtain ⟨ds,Γ1,e2,e3⟩:=ae' e1
 obtain ⟨e4,rfl⟩:=ao' e3
 refine ⟨G,I,Γ,ds,_,r,e2,λvs H1 I1 r1 g1 h1=>?_⟩
 show spD K g (vs++[]) H1 Q E
 rw [List.append_nil]
 unfold cvF at e4
 cases e5:g (ds.map .val) with
 | none=>rw [e5] at e4;cases e4
 | some q =>
  obtain ⟨rr,rs'⟩:=q
  rw [e5] at e4
  cases rr with
  | val d' =>
   cases e4
   refine ⟨H1,I1,ds.map .val,.val d,rs',dh' r1 h1,co' ds,e5,λv H' I' r' g' hv=>?_⟩
   obtain ⟨r2,g2⟩:=dR' r1 r' g'
   exact kk v H' I' r2 (g1.trans g2) hv
  | fro d' =>
   cases e4
   refine ⟨H1,I1,ds.map .val,.fro d',rs',dh' r1 h1,co' ds,e5,λv H' I' r' g' hv=>?_⟩
   obtain ⟨r2,g2⟩:=dR' r1 r' g'
   obtain ⟨p,xs,rfl,f1,_,f3⟩:=hv
   exact kk _ H' I' r2 (g1.trans g2) (Is.lst (RdK.of f1) f3)
  | own _=>cases e4
  | bor _=>cases e4
  | dic _=>cases e4
theorem t_co {K:PySem.W.Frag}{E:XK}:∀ σ H Q,tO K B (fn1 (coF g) t) σ H Q->tCall (spD K g) [] E (tAD K B t) σ H Q:=λσ H Q q=>by
 obtain ⟨G,I,Γ,d,Γ',r,e1,kk⟩:=q
 obtain ⟨ds,Γ1,e2,e3⟩:=ae' e1
 obtain ⟨e4,rfl⟩:=ao' e3
 refine ⟨G,I,Γ,ds,_,r,e2,λvs H1 I1 r1 g1 h1=>?_⟩
 show spD K g (vs++[]) H1 Q E
 rw [List.append_nil]
 unfold coF at e4
 cases e5:g (ds.map .val) with
 | none=>rw [e5] at e4;cases e4
 | some q =>
  obtain ⟨rr,rs'⟩:=q
  rw [e5] at e4
  cases rr with
  | own d' =>
   cases e4
   refine ⟨H1,I1,ds.map .val,.own d,rs',dh' r1 h1,co' ds,e5,λv H' I' r' g' hv=>?_⟩
   obtain ⟨r2,g2⟩:=dR' r1 r' g'
   obtain ⟨q,xs,rfl,b2,b3,b4,b5,b6⟩:=hv
   exact kk q xs H' I' r2 (g1.trans g2) b2 b3 (r1.gFree b4) (r1.apart b4) b6
  | fro d' =>
   obtain ⟨nl,e4⟩:=aw' e4
   subst e4
   refine ⟨H1,I1,ds.map .val,.fro d,rs',dh' r1 h1,co' ds,e5,λv H' I' r' g' hv=>?_⟩
   obtain ⟨p,xs,rfl,f1,f2,f3⟩:=hv
   have new:∀ b o,tupOf I1 I' b=some o->I1 b=some o\/H1 b=none:=λb o e=>by
    rcases f7' e with z | ⟨_,z,_⟩
    ·exact .inl z
    ·exact g'.new b o z
   have r2:Rep K B G (tupOf I1 I') H' σ _:=r1.ext ji' r'.gH (λb o e=>by
    rcases f7' e with z | ⟨_,z,_⟩
    ·exact r'.iH b o (g'.up b o z)
    ·exact r'.iH b o z) new
   refine kk p xs H' (tupOf I1 I') r2 (g1.trans ⟨ji',λb o e=>(new b o e).imp (λz=>z) λz=>r1.gFree z⟩) (r'.iH p _ f1) ?_ (r1.gFree f2) (r1.apart f2) (fj' g'.up _ _ nl f3)
   cases e:tupOf I1 I' p with
   | none=>rfl
   | some o =>
    rcases f7' e with z | ⟨_,z,zn⟩
    ·rw [r1.iFree f2] at z;cases z
    ·rw [f1] at z;cases z;exact absurd rfl (zn _)
  | val _=>cases e4
  | bor _=>cases e4
  | dic _=>cases e4
variable {CXd:Nat}{b:Expr}
theorem aR' (F:FnOk X.prog X.w X.K X.mg X.base CX0 k f fd ps (spD X.K g)) (hr:Room k X.A) (hg:Gl X x) (hm:X.mg x=some (.ref f)) (hk:PySem.W.keepIn X.K (.ref f)=true) (hb:Binds X.K fd ps []) (ha:AD X B (e::es) t)
  (hdb:(x == ("__debug__":Str))=false:=by decide) (he:starEach (e::es) X.env=(false,eval e X.env)::starEach es X.env:=by rfl) (hpl:(backTo pos (starEach es X.env)).any (·.1)=false:=by rfl) :
  ED X B (.Call (.Name x p) (e::es) [] pos) (fn1 (cvF g) t):=PE.imp (fL' F hr hg hm hk hb .nil pass0 ha hdb he hpl) t_cv
theorem d5' (F:FnOk X.prog X.w X.K X.mg X.base CX0 k f fd ps (spD X.K g)) (hr:Room k X.A) (hg:Gl X x) (hm:X.mg x=some (.ref f)) (hk:PySem.W.keepIn X.K (.ref f)=true) (hb:Binds X.K fd ps []) (ha:AD X B (e::es) t)
  (hdb:(x == ("__debug__":Str))=false:=by decide) (he:starEach (e::es) X.env=(false,eval e X.env)::starEach es X.env:=by rfl) (hpl:(backTo pos (starEach es X.env)).any (·.1)=false:=by rfl) :
  EO X B (.Call (.Name x p) (e::es) [] pos) (fn1 (coF g) t):=PE.imp (fL' F hr hg hm hk hb .nil pass0 ha hdb he hpl) t_co
def hide (H:Hp) (p:Addr):Hp:=λb=>if b=p then none else H b
theorem in' {H:Hp}{p:Addr}:hide H p p=none:=by unfold hide;rw [if_pos rfl]
theorem di' {H:Hp}{p b:Addr} (h:b≠p):hide H p b=H b:=by unfold hide;rw [if_neg h]
theorem mY' {H:Hp}{p:Addr}:Same (hide H p) H:=λb o e=>by
 by_cases h:b=p
 ·subst h;rw [in'] at e;cases e
 ·rw [di' h] at e;exact e
def bcF (g:List R->Option (R×List R)) (c ds:List D):Option (R×List D):=match g (.bor c::ds.map .val) with
 | some (r,.bor c'::_)=>some (r,c')
 | _=>none
def callB (i:Nat) (g:List R->Option (R×List R)) (t:M (List D)):M R:=mutS i (bnd t λds=>λΓ1=>match Γ1[i]? with
 | some (some (.own c))=>match bcF g c ds with
  | some (r,c')=>some (r,Γ1.set i (some (.own c')))
  | none=>none
 | some (some (.bor c))=>match bcF g c ds with
  | some (r,c')=>some (r,Γ1.set i (some (.bor c')))
  | none=>none
 | _=>none)
def asV (r:R):Option D:=match r with
 | .val d=>some d
 | _=>none
def asO (r:R):Option (List D):=match r with
 | .own d=>some d
 | _=>none
def cbV (i:Nat) (g:List R->Option (R×List R)) (t:M (List D)):M D:=bnd (callB i g t) λr=>lft (asV r)
theorem Rep.extBut {K:PySem.W.Frag}{G I I' H H':Hp}{σ:L2.St}{Γ:Gm} (r:Rep K B G I H σ Γ){q:Addr} (ap:Apart σ Γ q) (gq:G q=none) (iq:I q=none) (iq':I' q=none) (hI:Same I I') (hH:∀ b o,H b=some o->b≠q->H' b=some o) (iH:Same I' H')
  (new:∀ b o,I' b=some o->I b=some o\/H b=none\/b=q):Rep K B G I' H' σ Γ where
 iH:=iH
 gH:=λb o e=>hH b o (r.gH b o e) (λz=>by subst z;rw [gq] at e;cases e)
 len:=r.len
 slot:=λi qr e=>by
  obtain ⟨v,e1,e2⟩:=r.slot i qr e
  refine ⟨v,e1,?_⟩
  have mt:qr.ptr=true->∀ ds,Mt K G I H ds v->Mt K G I' H' ds v:=λm ds h=>by
   obtain ⟨p2,xs,h1,h2,h3,h4,h5⟩:=h
   have ne:p2≠q:=λz=>ap i qr e m (by rw [e1,h1,z])
   refine ⟨p2,xs,h1,hH _ _ h2 ne,?_,h4,h5.mono hI⟩
   cases z:I' p2 with
   | none=>rfl
   | some o =>
    rcases new p2 o z with z1 | z1 | z1
    ·rw [h3] at z1;cases z1
    ·rw [h2] at z1;cases z1
    ·exact absurd z1 ne
  cases qr with
  | val d=>exact Is.mono hI e2
  | dic ds =>
   obtain ⟨p2,xs,h1,h2,h3,h4,h5⟩:=e2
   have ne:p2≠q:=λz=>ap i _ e rfl (by rw [e1,h1,z])
   refine ⟨p2,xs,h1,hH _ _ h2 ne,?_,h4,h5.mono hI⟩
   cases z:I' p2 with
   | none=>rfl
   | some o =>
    rcases new p2 o z with z1 | z1 | z1
    ·rw [h3] at z1;cases z1
    ·rw [h2] at z1;cases z1
    ·exact absurd z1 ne
  | own ds=>exact mt rfl ds e2
  | bor ds=>exact mt rfl ds e2
  | fro ds=>obtain ⟨p,xs,f1,f2,f3,f4⟩:=e2;exact ⟨p,xs,f1,hI _ _ f2,f3,f4.mono hI⟩
 dist:=r.dist
 bor:=r.bor
theorem borrow {K:PySem.W.Frag}{G I H:Hp}{σ:L2.St}{Γ:Gm}{i:Nat}{q q':R}{c c' ds:List D}{rr:R}{ws:List V}{Q:VK}{E:XK} (r:Rep K B G I H σ Γ) (hq:Γ[i]?=some (some q)) (hc:(q=.own c/\q'=.own c')\/(q=.bor c/\q'=.bor c')) (hd:IsA K I ds ws){v0:V} (hv0:σ[i]?=some (some v0))
  (hg:bcF g c ds=some (rr,c')) (k:∀ v H' I',Rep K B G I' H' σ (Γ.set i (some q'))->Grow G I I'->ResOk K G I' H' σ (Γ.set i (some q')) rr v->Q v H'):spD K g (v0::ws) H Q E:=by
 obtain ⟨v,e1,e2⟩:=r.slot i q hq
 rw [hv0] at e1
 cases e1
 have hm:q.ptr=true:=by rcases hc with ⟨rfl,_⟩ | ⟨rfl,_⟩<;>rfl
 have mt:Mt K G I H c v0:=by rcases hc with ⟨rfl,_⟩ | ⟨rfl,_⟩<;>exact e2
 obtain ⟨a,xs,rfl,h1,h2,h3,h4⟩:=mt
 unfold bcF at hg
 cases e3:g (.bor c::ds.map .val) with
 | none=>rw [e3] at hg;cases hg
 | some z =>
  obtain ⟨r0,rs'⟩:=z
  rw [e3] at hg
  cases rs' with
  | nil=>cases hg
  | cons y rs' =>
   cases y with
   | val _=>cases hg
   | own _=>cases hg
   | fro _=>cases hg
   | dic _=>cases hg
   | bor c2 =>
    cases hg
    refine ⟨hide H a,I,.bor c::ds.map .val,rr,.bor c'::rs',?_,by rw [List.all_cons,co'];rfl,e3,λv H' I' r' g' hv=>?_⟩
    ·have rv:=dh' r hd
     exact {
      iH:=r.iH,gH:=mY'
      len:=by rw [List.map_cons,List.map_cons,List.length_cons,List.length_cons,rv.len]
      slot:=λj qr e=>by
       cases j with
       | zero=>cases e;exact ⟨_,rfl,a,xs,rfl,h1,h2,in',h4⟩
       | succ j =>
        obtain ⟨w,e4,e5⟩:=rv.slot j qr (by simpa using e)
        refine ⟨w,by simpa using e4,?_⟩
        have e9:((ds.map R.val).map some)[j]?=some (some qr):=e
        obtain ⟨z,f1,f2⟩:=getMap e9
        cases f2
        obtain ⟨d,f3,rfl⟩:=getMap f1
        exact e5
      dist:=λj l qr qr' w e e' m m' s1 s2=>by
       have only:∀ {j:Nat}{qr:R},((R.bor c::ds.map R.val).map some)[j]?=some (some qr)->qr.ptr=true->j=0:=λ{j qr} e m=>by
        cases j with
        | zero=>rfl
        | succ j =>
         have e9:((ds.map R.val).map some)[j]?=some (some qr):=e
         obtain ⟨z,f1,f2⟩:=getMap e9
         cases f2
         obtain ⟨d,f3,rfl⟩:=getMap f1
         cases m
       rw [only e m,only e' m']
      bor:=λj es e=>rfl }
    ·obtain ⟨w,e4,e5⟩:=r'.slot 0 (.bor c') rfl
     cases e4
     obtain ⟨a',xs',e6,f1,f2,f3,f4⟩:=e5
     cases e6
     have oth:Apart σ (Γ.set i none) a:=λj r1 z m s=>by
      rcases aK' z with ⟨_,z',_⟩ | ⟨n,z'⟩
      ·cases z'
      ·exact n (r.dist j i r1 q _ z' hq m hm s hv0)
     have r1:=(r.forget i).extBut (q:=a) oth h3 h2 f2 g'.up (λb o e n=>r'.gH b o (by rw [di' n];exact e)) r'.iH (λb o e=>by
      rcases g'.new b o e with z | z
      ·exact .inl z
      ·by_cases n:b=a
       ·exact .inr (.inr n)
       ·rw [di' n] at z;exact .inr (.inl z))
     have r2:=r1.learn (i:=i) (q:=q') (v:=.ref a) hv0 (by rcases hc with ⟨_,rfl⟩ | ⟨_,rfl⟩<;>exact ⟨a,xs',rfl,f1,f2,h3,f4⟩) (λm p2 e j r' n z m' s=>by
      cases e
      exact oth j r' z m' s) (λes z=>by
      rcases hc with ⟨_,rfl⟩ | ⟨rfl,rfl⟩
      ·cases z
      ·exact r.bor i c hq)
     rw [List.set_set] at r2
     have g2:Grow G I I':=⟨g'.up,λb o e=>by
      rcases g'.new b o e with z | z
      ·exact .inl z
      ·by_cases n:b=a
       ·subst n;exact .inr h3
       ·rw [di' n] at z;exact .inr (r.gFree z)⟩
     refine k v H' I' r2 g2 ?_
     cases rr with
     | val d=>exact hv
     | bor d=>exact hv
     | fro d =>
      obtain ⟨p2,ys,b1,b2,b3,b4⟩:=hv
      have ne:p2≠a:=λz=>by rw [z,f2] at b2;cases b2
      rw [di' ne] at b3
      exact ⟨p2,ys,b1,b2,r.gFree b3,b4⟩
     | dic d =>
      obtain ⟨p2,ys,b1,b2,b3,b4,b5,b6⟩:=hv
      have ne:p2≠a:=λz=>b5 0 (.bor c') rfl rfl (by rw [z];rfl)
      rw [di' ne] at b4
      refine ⟨p2,ys,b1,b2,b3,r.gFree b4,λj r3 z m s=>?_,b6⟩
      rcases aK' z with ⟨rfl,z',_⟩ | ⟨n,z'⟩
      ·rw [hv0] at s;cases s;exact ne rfl
      ·exact r.apart b4 j r3 z' m s
     | own d =>
      obtain ⟨p2,ys,b1,b2,b3,b4,b5,b6⟩:=hv
      have ne:p2≠a:=λz=>b5 0 (.bor c') rfl rfl (by rw [z];rfl)
      rw [di' ne] at b4
      refine ⟨p2,ys,b1,b2,b3,r.gFree b4,λj r3 z m s=>?_,b6⟩
      rcases aK' z with ⟨rfl,z',_⟩ | ⟨n,z'⟩
      ·rw [hv0] at s;cases s;exact ne rfl
      ·exact r.apart b4 j r3 z' m s
theorem mZ' {i:Nat}{t:M (List D)}{Γ Γ':Gm}{rr:R} (h:callB i g t Γ=some (rr,Γ')):isMut Γ i=true/\∃ ds Γ1 q q' c c',t Γ=some (ds,Γ1)/\Γ1[i]?=some (some q)/\((q=.own c/\q'=.own c')\/(q=.bor c/\q'=.bor c'))/\bcF g c ds=some (rr,c')/\Γ'=Γ1.set i (some q'):=by
 obtain ⟨hm,h⟩:=cJ' h
 obtain ⟨ds,Γ1,e1,e2⟩:=ae' h
 refine ⟨hm,ds,Γ1,?_⟩
 cases e:Γ1[i]? with
 | none=>simp only [e] at e2;cases e2
 | some o =>
  cases o with
  | none=>simp only [e] at e2;cases e2
  | some q =>
   cases q with
   | val d=>simp only [e] at e2;cases e2
   | fro d=>simp only [e] at e2;cases e2
   | dic d=>simp only [e] at e2;cases e2
   | own c =>
    simp only [e] at e2
    cases e3:bcF g c ds with
    | none=>simp only [e3] at e2;cases e2
    | some z =>
     obtain ⟨r0,c'⟩:=z
     simp only [e3] at e2
     cases e2
     exact ⟨.own c,.own c',c,c',e1,rfl,.inl ⟨rfl,rfl⟩,e3,rfl⟩
   | bor c =>
    simp only [e] at e2
    cases e3:bcF g c ds with
    | none=>simp only [e3] at e2;cases e2
    | some z =>
     obtain ⟨r0,c'⟩:=z
     simp only [e3] at e2
     cases e2
     exact ⟨.bor c,.bor c',c,c',e1,rfl,.inr ⟨rfl,rfl⟩,e3,rfl⟩
theorem sc' {K:PySem.W.Frag}{E:XK}{i:Nat}:∀ σ H Q,tD K B (cbV i g t) σ H Q->tCall (spD K g) [] E (tCons (tVar i) (tAD K B t)) σ H Q:=λσ H Q q=>by
 obtain ⟨G,I,Γ,d,Γ',r,e1,kk⟩:=q
 obtain ⟨rr,Γ0,e2,e3⟩:=ae' e1
 obtain ⟨e4,rfl⟩:=ao' e3
 obtain ⟨hm,ds,Γ1,q,q',c,c',f1,f2,f3,f4,rfl⟩:=mZ' e2
 obtain ⟨a,xs,h1,h2⟩:=cQ' hm r
 refine ⟨_,h1,G,I,Γ,ds,Γ1,r,f1,λws H1 I1 r1 g1 hd=>?_⟩
 show spD K g ((.ref a::ws)++[]) H1 Q E
 rw [List.append_nil]
 refine borrow r1 f2 f3 hd h1 f4 λv H' I' r' g' hv=>?_
 cases rr with
 | val d'=>cases e4;exact kk v H' I' r' (g1.trans g') hv
 | own _=>cases e4
 | bor _=>cases e4
 | fro _=>cases e4
 | dic _=>cases e4
theorem an' {i:Nat}{y:Str}{py:Pos} (F:FnOk X.prog X.w X.K X.mg X.base CX0 k f fd ps (spD X.K g)) (hr:Room k X.A) (hg:Gl X x) (hm:X.mg x=some (.ref f)) (hk:PySem.W.keepIn X.K (.ref f)=true) (hb:Binds X.K fd ps []) (hv:PE X (.Name y py) (tVar i)) (ha:AD X B es t)
  (hdb:(x == ("__debug__":Str))=false:=by decide) (he:starEach (.Name y py::es) X.env=(false,eval (.Name y py) X.env)::starEach es X.env:=by rfl) (hpl:(backTo pos (starEach es X.env)).any (·.1)=false:=by rfl) :
  ED X B (.Call (.Name x p) (.Name y py::es) [] pos) (cbV i g t):=PE.imp (fL' F hr hg hm hk hb .nil pass0 (d1' hv ha he) hdb he hpl) sc'
end
end DL
namespace DL
open PySem PySem.Spec PyProof.Rows L2
def relab (sc osc:Scope):Scope:={ sc with names:=sc.names.map λ(n,k)=>if (k == .free&&osc.kind == .function&&osc.names.lookup n == some .cell) then (n,.cell) else (n,k) }
def clo (cells:List (Str×Addr)):List (Str×NameKind)->List (Str×Addr)->List (Str×Addr)
 | [],acc=>acc
 | (n,k)::r,acc=>if k == .free then clo cells r ((n,(cells.lookup n).getD 0)::acc) else clo cells r acc
theorem io' {env:Env} (f:Str×NameKind->List (Str×Addr)->Sem (ForInStep (List (Str×Addr))))
  (hf:∀ name kind cs,f (name,kind) cs=if kind == .free then (do let a ← cellOf env name;pure (.yield ((name,a)::cs))) else pure (.yield cs)) :
  ∀ (names:List (Str×NameKind)) (acc:List (Str×Addr)),(∀ n,(n,NameKind.free)∈names->∃ c,env.cells.lookup n=some c)->(forIn names acc f:Sem _)=pure (clo env.cells names acc)
 | [],acc,_=>by rw [List.forIn_nil];rfl
 | (n,k)::r,acc,h=>by
  rw [List.forIn_cons,hf]
  unfold clo
  have ih:=λacc'=>io' f hf r acc' (λn hn=>h n (List.mem_cons_of_mem _ hn))
  by_cases hk:(k == NameKind.free)=true
  ·rw [if_pos hk,if_pos hk]
   have hk':k=.free:=by simpa using hk
   subst hk'
   obtain ⟨c,hc⟩:=h n List.mem_cons_self
   have e:cellOf env n=pure c:=by unfold cellOf;rw [hc]
   rw [e,hc]
   simp only [pure_bind,Option.getD_some]
   exact ih _
  ·rw [if_neg hk,if_neg hk]
   simp only [pure_bind]
   exact ih _
theorem eE' {scope:Scope}{env:Env} (h:∀ n,(n,NameKind.free)∈scope.names->∃ c,env.cells.lookup n=some c):closureFor scope env=pure (clo env.cells scope.names []):=by
 unfold closureFor
 dsimp only
 rw [io' (env:=env) _ (λname kind cs=>by cases hk:kind == NameKind.free<;>simp [hk]) scope.names [] h]
 rfl
theorem fO' {cells:List (Str×Addr)}:∀ {names:List (Str×NameKind)}{acc:List (Str×Addr)}{x:Str}{c:Addr},(x,c)∈clo cells names acc->(x,c)∈acc\/((x,NameKind.free)∈names/\c=(cells.lookup x).getD 0)
 | [],acc,x,c,h=>.inl h
 | (n,k)::r,acc,x,c,h=>by
  unfold clo at h
  by_cases hk:(k == NameKind.free)=true
  ·rw [if_pos hk] at h
   have hk':k=.free:=by simpa using hk
   subst hk'
   rcases fO' h with z | ⟨z1,z2⟩
   ·rcases List.mem_cons.mp z with z | z
    ·cases z;exact .inr ⟨List.mem_cons_self,rfl⟩
    ·exact .inl z
   ·exact .inr ⟨List.mem_cons_of_mem _ z1,z2⟩
  ·rw [if_neg hk] at h
   rcases fO' h with z | ⟨z1,z2⟩
   ·exact .inl z
   ·exact .inr ⟨List.mem_cons_of_mem _ z1,z2⟩
theorem hI' {cells:List (Str×Addr)}:∀ {names:List (Str×NameKind)}{acc:List (Str×Addr)}{x:Str},((x,NameKind.free)∈names\/∃ c,acc.lookup x=some c)->∃ c,(clo cells names acc).lookup x=some c
 | [],acc,x,h=>by
  rcases h with h | h
  ·cases h
  ·exact h
 | (n,k)::r,acc,x,h=>by
  unfold clo
  have push:∀ c0:Addr,(∃ c,acc.lookup x=some c)->∃ c,((n,c0)::acc).lookup x=some c:=λc0 ⟨c,hc⟩=>by
   rw [List.lookup_cons]
   cases x == n
   ·exact ⟨c,hc⟩
   ·exact ⟨c0,rfl⟩
  by_cases hk:(k == NameKind.free)=true
  ·rw [if_pos hk]
   refine hI' ?_
   rcases h with h | h
   ·rcases List.mem_cons.mp h with z | z
    ·cases z
     exact .inr ⟨_,by rw [List.lookup_cons,beq_self_eq_true]⟩
    ·exact .inl z
   ·exact .inr (push _ h)
  ·rw [if_neg hk]
   refine hI' ?_
   rcases h with h | h
   ·rcases List.mem_cons.mp h with z | z
    ·cases z;exact absurd (by rfl) hk
    ·exact .inl z
   ·exact .inr h
structure CompScope (osc sc:Scope) (N N':List Str) (m:Nat):Prop where
 kind:sc.kind=.function
 nocell:∀ y∈sc.names,y.2≠.cell
 locals:∀ y∈sc.names,y.2=.local->sc.names.lookup y.1=some .local
 free:∀ y∈sc.names,y.2=.free->osc.names.lookup y.1=some .cell\/osc.names.lookup y.1=some .free
 nd:N'.Nodup
 len:N'.length=m+N.length
 up:∀ p∈(N'.drop m).zip N,((relab sc osc).names.lookup p.1=none)\/(p.1=p.2/\(relab sc osc).names.lookup p.1≠some .local)
def cxC (X:Cx) (scope:Scope) (N':List Str) (C:Addr) (s:Shared) (H:Hp) (ex:List Addr):Cx :=
 { X with N:=N',s₀:=s,H₀:=H,env:=compEnvC scope (clo X.env.cells scope.names []) C X.env,outer:=X.stack,stack:=X.stack,ex:=ex,fn:=λ_=>false,pn:=[],xe:=λ_ _=>False }
def PTs (X:Cx) (ifs:List Expr) (t:TT):Prop :=
 ∀ (pins:List (Addr×Obj)) (s:Shared) (σ:L2.St) (H:Hp) (Q:Bool->Hp->Prop),Inv X pins σ H s->t σ H Q →
  wpAny (model X.prog X.w) X.A (forIn ifs true λc r=>if r=true then do let ok ← isTrue c X.env (eval c X.env);pure (ForInStep.yield ok) else pure (ForInStep.yield r)) (TP X pins σ Q) X.xe s
theorem pM' {X:Cx}:PTs X [] (λ_ H Q=>Q true H):=λpins s σ H Q I h=>wpAny_tests_nil ⟨H,I,h⟩
theorem pN' {X:Cx}{c:Expr}{t:TT} (h:PT X c t):PTs X [c] t:=λpins s σ H Q I q=>wpAny_tests_one (h pins s σ H Q I q)
abbrev calm (P:Program) (w:World) (A:Around){α:Type} (m:Sem α) (Q:α->Shared->Prop) (s:Shared):Prop:=wpAny (model P w) A m Q (λ_ _=>False) s
theorem calm.on {P:Program}{w:World}{A:Around}{α β:Type}{m:Sem α}{f:α->Sem β}{Q:α->Shared->Prop}{K:β->Shared->Prop}{E:Value->Shared->Prop}{s:Shared} (h:calm P w A m Q s) (k:∀ a s',Q a s'->wpAny (model P w) A (f a) K E s'):wpAny (model P w) A (m >>= f) K E s :=
 wpAny_bind (wpAny_mono h k λ_ _ no=>no.elim)
def TurnMeets (P:Program) (w:World) (A:Around) (src bag:Value) (tg elt:Expr) (ifs:List Expr) (env:Env) (again out:Shared->Prop) (s:Shared):Prop :=
 calm P w A (pyNext src) (λgot s=>match got with
  | none=>out s
  | some v=>calm P w A (letOwnedTupleGo tg src v) (λ_ s=>calm P w A (assign tg env v) (λ_ s =>
    calm P w A (forIn ifs true λc r=>if r=true then do let ok ← isTrue c env (eval c env);pure (ForInStep.yield ok) else pure (ForInStep.yield r)) (λyes s =>
     cond yes (calm P w A (eval elt env) (λx s=>calm P w A (call (.builtin "list.append") [bag,x]) (λ_ s=>again s) s) s) (again s)) s) s) s) s
theorem lO' {P:Program}{w:World}{A:Around}{out:Result->Shared->Prop}{s:Shared}{elt tg from':Expr}{ifs:List Expr}{sc:Scope}{at':Pos}{src bag:Value}{env:Env} (W:Nat->Shared->Prop)
  (each:∀ left s,W left s->TurnMeets P w A src bag tg elt ifs env (λs'=>∃ less,less < left/\W less s') (out (.ok .next)) s) (left:Nat) (start:W left s) :
  codeAny (model P w) A (.compLoop (.ListComp elt [⟨tg,from',ifs,0⟩] sc at') 0 src bag env) out s:=by
 refine codeAny_loop rfl W (λleft s here=>?_) left start
 have turn:=each left s here
 unfold TurnMeets at turn
 refine wpAny_noted ?_
 rw [compTurn_list]
 refine wpAny_bind (wpAny_standAt (turn.on λgot s1 h1=>?_))
 cases got with
 | none=>exact wpAny_pure h1
 | some v=>exact calm.on h1 λ_ _ h2=>calm.on h2 λ_ _ h3=>calm.on h3 λyes s4 h4=>match yes,h4 with
  | false,h4=>wpAny_pure (And.intro rfl h4)
  | true,h4=>wpAny_bind (calm.on h4 λ_ _ h5=>calm.on h5 λ_ _ h6=>wpAny_pure (wpAny_pure (And.intro rfl h6)))
def Clear (X:Cx) (pins:List (Addr×Obj)) (H:Hp) (C:Addr):Prop:=H C=none/\C≠X.env.locals/\X.s₀.heap.objs.size<=C/\(∀ x c,X.env.cells.lookup x=some c->c≠C)/\∀ p∈X.pn++pins,p.1≠C
theorem Inv.clear {X:Cx}{pins:List (Addr×Obj)}{σ:L2.St}{H:Hp}{s:Shared}{h':Heap}{C:Addr} (I:Inv X pins σ H s) (c:Clear X pins H C) (hs:Heap.SameBut C s.heap h'):Inv X pins σ H { s with heap:=h' } :=
 I.turned (t':=s.toks) (λb o hb e=>(hs.2 b hb).trans e) c.1 c.2.1 (.inr c.2.2.1) c.2.2.2.1 c.2.2.2.2
def CompW (m:Nat) (J:It) (g:TG) (tt:TT) (te:TE) (σ:L2.St) (H1:Hp) (p:Addr) (Q:VK):Prop :=
 ∃ W:Nat->Nat->L2.St->Hp->Prop,(∃ n,W 0 n (List.replicate m none++σ) (upd H1 p (.lst [])))/\∀ i n σ' H',W i n σ' H' →
  (J.stop i H'/\Q (.ref p) H')\/(J.go i H'/\∀ x H2,J.yld i H' x H2->g x σ' H2 λσ2 H3=>tt σ2 H3 λb H4 =>
   if b=true then te σ2 H4 λy H5=>∃ acc,H5 p=some (.lst acc)/\acc.length < sizeLine/\∃ n',n' < n/\W (i+1) n' σ2 (upd H5 p (.lst (acc++[y])))
   else ∃ n',n' < n/\W (i+1) n' σ2 H4)
section
variable {X:Cx}{tg elt iter:Expr}{ifs:List Expr}{scope:Scope}{pos:Pos}{N':List Str}{m:Nat}{g:TG}{tt:TT}{te:TE}
theorem ip' {pins:List (Addr×Obj)}{σ:L2.St}{H2:Hp}{s2:Shared}{it:Addr}{fp:List Addr}{tn:Nat->Heap->Prop}{J:It}{Q:VK}{E:Value->Shared->Prop} (S:CompScope X.env.scope scope X.N N' m) (hc:X.calm=true)
  (hg:∀ C s H ex,PG (cxC X scope N' C s H ex) tg g) (ht:∀ C s H ex,PTs (cxC X scope N' C s H ex) ifs tt) (he:∀ C s H ex,PE (cxC X scope N' C s H ex) elt te)
  (I2:Inv X pins σ H2 s2) (T:Turn X.prog X.w X.K tg J fp it tn) (st2:tn 0 s2.heap) (f2:∀ b∈fp,FpOk X pins H2 b) (hw:∀ p,H2 p=none->CompW m J g tt te σ H2 p Q) :
  wpAny (model X.prog X.w) X.A (newList []) (λacc s3=>wpAny (model X.prog X.w) X.A (newFunctionEnv scope X.env.globals (clo X.env.cells scope.names []) [] X.env.qual none .none (some X.env)) (λcenv s4 =>
   codeAny (model X.prog X.w) X.A (.compStart (.ListComp elt [⟨tg,iter,ifs,0⟩] scope pos) 0 (.ref it) acc { cenv with scope:=relabel scope X.env })
    (λr s'=>match r with | .ok _=>∃ p H' mm,acc=.ref p/\s'.heap.Ns cenv.locals mm/\Inv X pins σ H' s'/\Clear X pins H' cenv.locals/\Q (.ref p) H' | .error _=>False) s4) E s3) E s2:=by
 refine wpAny_newObj_type (wpAny_newFunctionEnv S.nocell (by intro y hy;simp at hy) (λh1 hns1 hsb1=>?_) S.kind)
 dsimp only at hns1 hsb1 ⊢
 -- the new list
 have hp:H2 s2.heap.objs.size=none:=I2.hok.fresh (Nat.le_refl _)
 obtain ⟨W,⟨n0,w0⟩,turn⟩:=hw _ hp
 obtain ⟨p,hP⟩:∃ p,p=s2.heap.objs.size:=⟨_,rfl⟩
 obtain ⟨s3,hS3⟩:∃ s3:Shared,s3={ s2 with heap:=s2.heap.push { cls:=.type "list", dict:=none,data:=.seq ([]:List Value).toArray } }:=⟨_,rfl⟩
 obtain ⟨C,hC⟩:∃ C,C=s3.heap.objs.size:=⟨_,rfl⟩
 obtain ⟨H3,hH3⟩:∃ H3,H3=upd H2 p (.lst []):=⟨_,rfl⟩
 have h3:s3.heap=s2.heap.push { cls:=.type "list", dict:=none,data:=.seq ([]:List Value).toArray }:=by rw [hS3]
 have hns:h1.Ns C (λx=>([]:List (Str×Value)).reverse.lookup x):=by rw [hC,h3];exact hns1
 have hsb:Heap.SameBut C (s3.heap.push { cls:=.type "dict", data:=.dict #[] }) h1:=by rw [hC,h3];exact hsb1
 rw [← hP] at hp
 have w0':W 0 n0 (List.replicate m none++σ) H3:=by rw [hH3,hP];exact w0
 have turn':∀ i n σ' H',W i n σ' H'->(J.stop i H'/\Q (.ref p) H')\/(J.go i H'/\∀ x H2,J.yld i H' x H2->g x σ' H2 λσ2 H3=>tt σ2 H3 λb H4 =>
   if b=true then te σ2 H4 λy H5=>∃ acc,H5 p=some (.lst acc)/\acc.length < sizeLine/\∃ n',n' < n/\W (i+1) n' σ2 (upd H5 p (.lst (acc++[y])))
   else ∃ n',n' < n/\W (i+1) n' σ2 H4):=by rw [hP];exact turn
 have I3:Inv X pins σ H3 s3:=by
  rw [hH3,hS3,hP]
  exact I2.laid (t':=s2.toks) (λb u e=>Heap.get?_push_of_some _ e) (Nat.le_refl _) ⟨Nat.zero_le _,[],0,.nil,Heap.get?_push_size _ rfl⟩
 have st3:tn 0 s3.heap:=T.keep _ _ _ st2 λb _ o e=>by rw [h3];exact Heap.get?_push_of_some _ e
 have f3:∀ b∈fp,FpOk X pins H3 b:=λb hb=>by
  obtain ⟨a0,a1⟩:=f2 b hb
  refine ⟨?_,a1⟩
  obtain ⟨o,e,_⟩:=T.obj _ _ st2 b hb
  have ne:b≠p:=λz=>by
   have:=Heap.lt_size e
   rw [← hP,z] at this
   exact Nat.lt_irrefl _ this
  rw [hH3,aj' ne];exact a0
 -- the block's context
 have cells_of:∀ x c,(clo X.env.cells scope.names []).lookup x=some c->X.env.cells.lookup x=some c:=λx c e=>by
  rcases fO' (mem_of_lookup e) with z | ⟨z1,z2⟩
  ·cases z
  ·obtain ⟨c',hc'⟩:=I2.ok.has x (S.free _ z1 rfl)
   rw [hc'] at z2
   rw [z2];exact hc'
 have clear3:Clear X pins H3 C:=by
  refine ⟨?_,?_,?_,λx c e z=>?_,λq hq z=>?_⟩
  ·exact I3.hok.fresh (Nat.le_of_eq hC.symm)
  ·have:=I3.lt;rw [← hC] at this;exact Nat.ne_of_gt this
  ·have:=I3.sz;rw [← hC] at this;exact this
  ·obtain ⟨v,q⟩:=I3.cell x c e
   have:=q.lt;rw [← hC,z] at this;exact Nat.lt_irrefl _ this
  ·have:=Heap.lt_size (I3.pin q hq).1
   rw [← hC,z] at this;exact Nat.lt_irrefl _ this
 have old:∀ b o,s3.heap.get? b=some o->h1.get? b=some o:=λb o e=>by
  have ne:b≠C:=λz=>by have:=Heap.lt_size e;rw [← hC,z] at this;exact Nat.lt_irrefl _ this
  exact (hsb.2 b ne).trans (Heap.get?_push_of_some _ e)
 have ok:(cxC X scope N' C s3 H3 fp).Ok:=by
  refine ⟨I3.ok.mod,S.kind,I3.ok.glob,I3.ok.blt,Nat.le_of_eq hC.symm,λx y c e1 e2=>I3.ok.inj x y c (cells_of x c e1) (cells_of y c e2),λx hx=>?_,λx c z=>(nomatch z),λz=>I3.ok.hd z,I3.ok.frames,.inl rfl,λb hb=>⟨λz=>?_,λx c e=>(f3 b hb).2.2.2.2.1 x c (cells_of x c e)⟩,I3.bs,Nat.le_trans I3.ok.bsz I3.sz,λb o e hb=>?_,λb hb z=>?_,I3.stack,λb hb=>I3.stkFree b hb⟩
  ·-- has
   have hx':(relab scope X.env.scope).names.lookup x=some .cell\/(relab scope X.env.scope).names.lookup x=some .free:=hx
   have mem:∃ k,(x,k)∈(relab scope X.env.scope).names/\(k=NameKind.cell\/k=NameKind.free):=by
    rcases hx' with z | z
    ·exact ⟨_,mem_of_lookup z,.inl rfl⟩
    ·exact ⟨_,mem_of_lookup z,.inr rfl⟩
   obtain ⟨k,hm,hk⟩:=mem
   obtain ⟨⟨n1,k1⟩,hm1,e1⟩:=List.mem_map.mp hm
   refine hI' (.inl ?_)
   dsimp only at e1
   by_cases hcond:(k1 == NameKind.free&&X.env.scope.kind == ScopeKind.function&&X.env.scope.names.lookup n1 == some NameKind.cell)=true
   ·rw [if_pos hcond] at e1
    cases e1
    have:k1=.free:=by
     simp only [Bool.and_eq_true,beq_iff_eq] at hcond
     exact hcond.1.1
    rw [← this];exact hm1
   ·rw [if_neg hcond] at e1
    cases e1
    rcases hk with rfl | rfl
    ·exact absurd rfl (S.nocell _ hm1)
    ·exact hm1
  ·obtain ⟨o,e,_⟩:=T.obj _ _ st3 b hb
   have:=Heap.lt_size e
   rw [← hC] at this
   have z':b=C:=z
   rw [z'] at this;exact Nat.lt_irrefl _ this
  ·obtain ⟨a0,a1,a2,a3,_⟩:=f3 b hb
   rcases a3 with z | z
   ·exact I3.ok.noex b o e z
   ·exact absurd (Nat.lt_of_lt_of_le (Heap.lt_size e) (Nat.le_trans I3.ok.bsz z)) (Nat.lt_irrefl _)
  ·have z':=I3.stkSub b z
   obtain ⟨a0,a1,a2,_⟩:=f3 b hb
   rcases List.mem_cons.mp z' with e | e
   ·exact a1 e
   ·exact a2 e
 -- the block's first state
 have I4:Inv (cxC X scope N' C s3 H3 fp) [] (List.replicate m none++σ) H3 { s3 with heap:=h1,toks:=s3.toks+([]:List (Str×Value)).length }:=by
  obtain ⟨mo,hmo,hlo⟩:=I3.loc
  refine ⟨ok,rfl,I3.bare,Un.kept old,⟨_,hns,λi x v e1 e2 e3=>?_⟩,λx c e=>?_,clear3.1,λx c e=>I3.freeC x c (cells_of x c e),λq hq=>absurd (show q∈([]:List (Addr×Obj)) from hq) (by simp),I3.hok.kept old,?_⟩
  ·have hi:m<=i:=by
    by_cases z:m<=i
    ·exact z
    ·rw [List.getElem?_append_left (by rw [List.length_replicate];omega),List.getElem?_replicate] at e2
     split at e2<;>cases e2
   rw [List.getElem?_append_right (by rw [List.length_replicate];exact hi),List.length_replicate] at e2
   have e1':N'[i]?=some x:=e1
   have hi2:i - m < X.N.length:=by
    have:=(List.getElem?_eq_some_iff.mp e1').1
    rw [S.len] at this
    omega
   have e4:(N'.drop m)[i - m]?=some x:=by rw [List.getElem?_drop];rw [show m+(i - m)=i from by omega];exact e1'
   have e5:X.N[i - m]?=some X.N[i - m]:=List.getElem?_eq_getElem hi2
   have e6:((N'.drop m).zip X.N)[i - m]?=some (x,X.N[i - m]):=by rw [List.getElem?_zip_eq_some];exact ⟨e4,e5⟩
   have e3':Vis (relab scope X.env.scope) x:=e3
   rcases S.up _ (List.mem_of_getElem? e6) with z | ⟨z1,z2⟩
   ·have z':(relab scope X.env.scope).names.lookup x=none:=z
    rcases e3' with y | y | y<;>rw [z'] at y<;>cases y
   ·have z1':x=X.N[i - m]:=z1
    have z2':(relab scope X.env.scope).names.lookup x≠some .local:=z2
    have hcf:(relab scope X.env.scope).names.lookup x=some .cell\/(relab scope X.env.scope).names.lookup x=some .free:=by
     rcases e3' with y | y | y
     ·exact absurd y z2'
     ·exact .inl y
     ·exact .inr y
    obtain ⟨c,hcl⟩:=ok.has x hcf
    have hxc:=cells_of x c hcl
    -- the name in the def's own frame
    have mem:(x,NameKind.free)∈scope.names:=by
     rcases fO' (mem_of_lookup hcl) with y | ⟨y,_⟩
     ·cases y
     ·exact y
    have visX:Vis X.env.scope x:=by
     rcases S.free _ mem rfl with y | y
     ·exact .inr (.inl y)
     ·exact .inr (.inr y)
    obtain ⟨u,ru,l⟩:=hlo (i - m) x v (by rw [e5,← z1']) e2 visX
    refine ⟨u,ru,.inr ⟨hcf,c,hcl,?_⟩⟩
    rcases l with ⟨k,_⟩ | ⟨_,c',e',z'⟩
    ·have k':X.env.scope.names.lookup x=some .local:=k
     rcases S.free _ mem rfl with y | y<;>(have y':X.env.scope.names.lookup x=_:=y;rw [k'] at y';cases y')
    ·rw [hxc] at e';cases e'
     exact z'.keeps old
  ·obtain ⟨v,q⟩:=I3.cell x c (cells_of x c e)
   exact ⟨v,q.keeps old⟩
  ·show (List.replicate m none++σ).length=N'.length
   rw [List.length_append,List.length_replicate,S.len,I3.len]
 have stat:∀ {H':Hp},(∀ b∈fp,H' b=none)->∀ b∈fp,FpOk (cxC X scope N' C s3 H3 fp) [] H' b:=λ{H'} hn b hb=>by
  refine ⟨hn b hb,(ok.exf b hb).1,ok.exfs b hb,.inl hb,(ok.exf b hb).2,λq hq=>absurd (show q∈([]:List (Addr×Obj)) from hq) (by simp)⟩
 -- what stands behind the block
 have back:∀ {σ':L2.St}{H':Hp}{s':Shared},Inv (cxC X scope N' C s3 H3 fp) [] σ' H' s'->Inv X pins σ H' s'/\Clear X pins H' C:=λ{σ' H' s'} J'=>by
  refine ⟨I3.call' J'.os J'.base J'.hok J'.bare λb hb=>?_,J'.free,clear3.2⟩
  obtain ⟨a0,a1,a2,a3,a4,a5⟩:=f3 b hb
  exact ⟨a3,a1,a4,a5⟩
 have loop:∀ s4:Shared,s4={ s3 with heap:=h1,toks:=s3.toks+([]:List (Str×Value)).length } →
   codeAny (model X.prog X.w) X.A (.compLoop (.ListComp elt [⟨tg,iter,ifs,0⟩] scope pos) 0 (.ref it) (.ref p) (compEnvC scope (clo X.env.cells scope.names []) C X.env))
    (λr s'=>match r with | .ok _=>∃ p' H' mm,Value.ref p=.ref p'/\s'.heap.Ns C mm/\Inv X pins σ H' s'/\Clear X pins H' C/\Q (.ref p') H' | .error _=>False) s4:=by
  rintro s4 rfl
  refine lO' (λn s'=>∃ i σ' H',Inv (cxC X scope N' C s3 H3 fp) [] σ' H' s'/\tn i s'.heap/\(∀ b∈fp,H' b=none)/\W i n σ' H') ?_ n0 ⟨0,_,_,I4,T.keep _ _ _ st3 λb _ o e=>old b o e,λb hb=>(f3 b hb).1,w0'⟩
  rintro n s5 ⟨i,σ5,H5,I5,st5,fr5,w5⟩
  show TurnMeets _ _ _ _ _ _ _ _ _ _ _ _
  unfold TurnMeets
  rcases turn' i n σ5 H5 w5 with ⟨stop,qn⟩ | ⟨go,step⟩
  ·refine wpAny_mono (T.done (cxC X scope N' C s3 H3 fp) rfl rfl rfl hc i [] s5 σ5 H5 (λ_ _=>False) I5 (stat fr5) st5 stop) (λr s6 ⟨hr,I6⟩=>?_) λ_ _ z=>z
   subst hr
   obtain ⟨mm,hmm,_⟩:=I6.loc
   obtain ⟨b1,b2⟩:=back I6
   exact ⟨p,H5,mm,rfl,hmm,b1,b2,qn⟩
  ·refine wpAny_mono (T.item (cxC X scope N' C s3 H3 fp) rfl rfl rfl hc i [] s5 σ5 H5 (λ_ _=>False) I5 (stat fr5) st5 go) (λr s6 ⟨u,hr,h6⟩=>?_) λ_ _ z=>z
   subst hr
   refine wpAny_mono h6 (λ_ s7 ⟨x,H7,I7,r7,y7,st7,fr7⟩=>?_) λ_ _ z=>z
   have I7':=I7.pinned (stat fr7) (T.obj _ _ st7)
   refine wpAny_mono (hg C s3 H3 fp _ s7 σ5 H7 x u _ I7' r7 (step x H7 y7)) (λ_ s8 ⟨σ8,H8,I8,q8⟩=>?_) λ_ _ z=>z
   refine wpAny_mono (ht C s3 H3 fp _ s8 σ8 H8 _ I8 q8) (λok s9 ⟨H9,I9,q9⟩=>?_) λ_ _ z=>z
   have again:∀ {σa:L2.St}{Ha:Hp}{sa:Shared},Inv (cxC X scope N' C s3 H3 fp) ([]++pinsAt fp s7.heap) σa Ha sa->tn (i+1) sa.heap/\(∀ b∈fp,Ha b=none):=λ{σa Ha sa} Ia=>by
    refine ⟨T.keep _ _ _ st7 λb hb o e=>(Ia.pin (b,o) (List.mem_append_right _ (List.mem_append_right _ (dQ' hb e)))).1,λb hb=>?_⟩
    obtain ⟨o,e,d⟩:=T.obj _ _ st7 b hb
    exact (Ia.pin (b,o) (List.mem_append_right _ (List.mem_append_right _ (dQ' hb e)))).2.1
   cases ok with
   | false =>
    rw [if_neg Bool.false_ne_true] at q9
    obtain ⟨n',hn',w9⟩:=q9
    obtain ⟨a1,a2⟩:=again I9
    exact ⟨n',hn',i+1,σ8,H9,I9.unpinned,a1,a2,w9⟩
   | true =>
    rw [if_pos rfl] at q9
    refine wpAny_mono (he C s3 H3 fp _ s9 σ8 H9 _ I9 q9) (λxv s10 ⟨y,H10,I10,r10,acc,hacc,hl,n',hn',w10⟩=>?_) λ_ _ z=>z
    refine wpAny_mono (ij' (X:=cxC X scope N' C s3 H3 fp) _ s10 σ8 H10 (.ref p) [y] (.ref p) [xv] (λ_ H'=>H'=upd H10 p (.lst (acc++[y]))) I10 rfl (.cons r10 .nil) ⟨p,acc,y,rfl,rfl,hacc,hl,rfl⟩) (λ_ s11 ⟨v11,H11,I11,_,e11⟩=>?_) λ_ _ z=>z
    subst e11
    obtain ⟨a1,a2⟩:=again I11
    exact ⟨n',hn',i+1,σ8,_,I11.unpinned,a1,a2,w10⟩
 subst hC
 subst hS3
 subst hP
 refine codeAny_compStart_list ?_ (T.self X.A 0 _ _ _ (T.keep _ _ _ st3 λb _ o e=>old b o e) ?_)
 ·exact loop _ rfl
 ·exact loop _ rfl
end
end DL
namespace DL
open PySem PySem.Spec PyProof.Rows L2
section
variable {X:Cx}{tg elt iter:Expr}{ifs:List Expr}{scope:Scope}{pos:Pos}{N':List Str}{m:Nat}{g:TG}{tt:TT}{te:TE}{wi:TI}
def tComp (m:Nat) (wi:TI) (g:TG) (tt:TT) (te:TE):TE:=λσ H Q=>wi σ H λJ H1=>∀ p,H1 p=none->CompW m J g tt te σ H1 p Q
theorem pO' (S:CompScope X.env.scope scope X.N N' m) (hc:X.calm=true) (hi:PI X tg iter wi)
  (hg:∀ C s H ex,PG (cxC X scope N' C s H ex) tg g) (ht:∀ C s H ex,PTs (cxC X scope N' C s H ex) ifs tt) (he:∀ C s H ex,PE (cxC X scope N' C s H ex) elt te)
  (hs:∀ x,foldedSetIterable iter X.env x=pure x:=by intro _;rfl):PE X (.ListComp elt [⟨tg,iter,ifs,0⟩] scope pos) (tComp m wi g tt te):=by
 intro pins s σ H Q I h
 rw [eval_ListComp]
 refine wpAny_comprehension_free (use:=none) rfl hs (eE' λn hn=>I.ok.has n (S.free _ hn rfl)) S.kind S.locals (thn (hi pins s σ H _ I h) λxv s1 h1=>thn h1 λitv s2 h2=>?_)
 obtain ⟨it,fp,tn,J,H2,e,I2,T,st2,f2,hw⟩:=h2
 subst e
 refine thn (ip' (pos:=pos) (iter:=iter) S hc hg ht he I2 T st2 f2 hw) λacc s3 h3=>thn h3 λcenv s4 h4=>codeAny_mono h4 λr s5 h5=>?_
 cases r with
 | error x=>exact h5.elim
 | ok fl =>
  obtain ⟨p,H5,mm,rfl,hn,I5,cl,q⟩:=h5
  exact ⟨mm,hn,λh' hs'=>⟨.ref p,H5,Inv.clear I5 cl hs',rfl,q⟩⟩
theorem lP' {i:Nat}{y:Str}{py spos:Pos} (S:CompScope X.env.scope scope X.N N' m) (hc:X.calm=true) (hN:X.N.Nodup) (hi':X.N[i]?=some y) (hy:X.env.scope.names.lookup y=some .local) (hi:PI X tg iter wi)
  (hg:∀ C s H ex,PG (cxC X scope N' C s H ex) tg g) (ht:∀ C s H ex,PTs (cxC X scope N' C s H ex) ifs tt) (he:∀ C s H ex,PE (cxC X scope N' C s H ex) elt te)
  (hsw:swapsWith (.ListComp elt [⟨tg,iter,ifs,0⟩] scope pos) (some (.Name y py)) spos.line X.env=pure true)
  (hs:∀ x,foldedSetIterable iter X.env x=pure x:=by intro _;rfl):PS X (.Assign [.Name y py] (.ListComp elt [⟨tg,iter,ifs,0⟩] scope pos) spos) (tAsg (tComp m wi g tt te) (gName i)):=by
 intro pins s σ H D I h
 rw [exec_Assign_Name_used _ _ _ _ hsw]
 refine wpAny_bind (wpAny_standAt (wpAny_bind ?_))
 show wpAny _ X.A (do let _ ← comprehension (.ListComp elt [⟨tg,iter,ifs,0⟩] scope pos) scope X.env _ (newList []) false (eval iter X.env) (some (assign (.Name y py) X.env))) _ _ s
 refine wpAny_bind (thn (wpAny_comprehension_free (use:=some (assign (.Name y py) X.env)) (Q:=λ_ s'=>SP X pins D .next s') rfl hs (eE' λn hn=>I.ok.has n (S.free _ hn rfl)) S.kind S.locals
  (thn (hi pins s σ H _ I h) λxv s1 h1=>thn h1 λitv s2 h2=>?_)) λ_ s' hq=>wpAny_pure (wpAny_pure hq))
 obtain ⟨it,fp,tn,J,H2,e,I2,T,st2,f2,hw⟩:=h2
 subst e
 refine thn (ip' (pos:=pos) (iter:=iter) S hc hg ht he I2 T st2 f2 hw) λacc s3 h3=>thn h3 λcenv s4 h4=>codeAny_mono h4 λr s5 h5=>?_
 cases r with
 | error x=>exact h5.elim
 | ok fl =>
  obtain ⟨p,H5,mm,rfl,hn,I5,cl,q⟩:=h5
  show wpAny _ X.A (assign (.Name y py) X.env (.ref p)) _ _ s5
  refine wpAny_assign_Name (ic' (v:=.ref p) I5 hN hi' (.inl hy) rfl (λs6 I6 ⟨a,hs6,ha⟩=>?_) (.inr hy))
  have neC:cenv.locals≠a:=by
   rcases ha with rfl | ha
   ·exact cl.2.1
   ·exact λz=>cl.2.2.2.1 y a ha z.symm
  refine ⟨mm,hn.sameBut hs6 neC,λh' hs'=>?_⟩
  have cl6:Clear X pins H5 cenv.locals:=cl
  exact ⟨_,H5,Inv.clear I6 cl6 hs',q⟩
end
def inC {α:Type} (m:Nat) (g:M α):M α:=λΓ=>match g (List.replicate m none++Γ) with
 | some (a,Γ')=>some (a,Γ'.drop m)
 | none=>none
def compM (tgt:D->M Unit) (ts:M Bool) (el:M D):List D->M (List D)
 | []=>ret []
 | d::ds=>bnd (tgt d) λ_=>bnd ts λb=>if b then bnd el λx=>bnd (compM tgt ts el ds) λr=>ret (x::r) else compM tgt ts el ds
def compO (m:Nat) (it:M (List D)) (tgt:D->M Unit) (ts:M Bool) (el:M D):M (List D):=bnd it λds=>if ds.length<=lim then inC m (compM tgt ts el ds) else λ_=>none
def bUp (m:Nat) (B:BB):BB:=λi=>if i < m then none else B (i - m)
theorem pP' {α:Type}{m:Nat}{g:M α}{Γ Γ':Gm}{a:α} (h:inC m g Γ=some (a,Γ')):∃ Γ1,g (List.replicate m none++Γ)=some (a,Γ1)/\Γ'=Γ1.drop m:=by
 unfold inC at h
 cases e:g (List.replicate m none++Γ) with
 | none=>rw [e] at h;cases h
 | some q=>obtain ⟨b,Γ1⟩:=q;rw [e] at h;cases h;exact ⟨Γ1,rfl,rfl⟩
section
variable {K:PySem.W.Frag}{B:BB}{G I H:Hp}{σ σ':L2.St}{Γ Γ':Gm}{m:Nat}
theorem eF' {α:Type}{l:List (Option α)}{m i:Nat}{a:α} (h:(List.replicate m (none:Option α)++l)[i]?=some (some a)):m<=i/\l[i - m]?=some (some a):=by
 by_cases hi:m<=i
 ·rw [List.getElem?_append_right (by rw [List.length_replicate];exact hi),List.length_replicate] at h
  exact ⟨hi,h⟩
 ·rw [List.getElem?_append_left (by rw [List.length_replicate];omega),List.getElem?_replicate] at h
  split at h<;>cases h
theorem ph' {α:Type}{l:List (Option α)}{m i:Nat} (hi:m<=i):(List.replicate m (none:Option α)++l)[i]?=l[i - m]?:=by
 rw [List.getElem?_append_right (by rw [List.length_replicate];exact hi),List.length_replicate]
theorem Rep.up (r:Rep K B G I H σ Γ) (m:Nat):Rep K (bUp m B) G I H (List.replicate m none++σ) (List.replicate m none++Γ) where
 iH:=r.iH
 gH:=r.gH
 len:=by rw [List.length_append,List.length_append,List.length_replicate,List.length_replicate,r.len]
 slot:=λi q e=>by
  obtain ⟨hi,e1⟩:=eF' e
  obtain ⟨v,e2,e3⟩:=r.slot _ q e1
  exact ⟨v,by rw [ph' hi];exact e2,e3⟩
 dist:=λi j q q' v e e' mm mm' s1 s2=>by
  obtain ⟨hi,e1⟩:=eF' e
  obtain ⟨hj,e2⟩:=eF' e'
  have:=r.dist _ _ q q' v e1 e2 mm mm' (eF' s1).2 (eF' s2).2
  omega
 bor:=λi ds e=>by
  obtain ⟨hi,e1⟩:=eF' e
  rw [ph' hi,r.bor _ ds e1]
  unfold bUp
  rw [if_neg (by omega)]
theorem Rep.down (r:Rep K (bUp m B) G I H σ' Γ') (hs:σ'.drop m=σ):Rep K B G I H σ (Γ'.drop m):=by
 subst hs
 exact {
  iH:=r.iH,gH:=r.gH
  len:=by rw [List.length_drop,List.length_drop,r.len]
  slot:=λi q e=>by
   rw [List.getElem?_drop] at e
   obtain ⟨v,e2,e3⟩:=r.slot _ q e
   exact ⟨v,by rw [List.getElem?_drop];exact e2,e3⟩
  dist:=λi j q q' v e e' mm mm' s1 s2=>by
   rw [List.getElem?_drop] at e e' s1 s2
   have:=r.dist _ _ q q' v e e' mm mm' s1 s2
   omega
  bor:=λi ds e=>by
   rw [List.getElem?_drop] at e ⊢
   rw [r.bor _ ds e]
   unfold bUp
   rw [if_neg (by omega)]
   congr 1
   omega }
theorem Rep.guard (r:Rep K B G I H σ Γ){p:Addr} (h:H p=none) (o:HO):Rep K B (upd G p o) I (upd H p o) σ Γ where
 iH:=r.iH.trans (aS' h o)
 gH:=im' r.gH o
 len:=r.len
 slot:=λi q e=>by
  obtain ⟨v,e1,e2⟩:=r.slot i q e
  refine ⟨v,e1,?_⟩
  have mt:∀ ds,Mt K G I H ds v->Mt K (upd G p o) I (upd H p o) ds v:=λds hh=>by
   obtain ⟨p2,xs,h1,h2,h3,h4,h5⟩:=hh
   have ne:p2≠p:=a6' h2 h
   exact ⟨p2,xs,h1,by rw [aj' ne];exact h2,h3,by rw [aj' ne];exact h4,h5⟩
  cases q with
  | val d=>exact e2
  | dic ds =>
   obtain ⟨p2,xs,h1,h2,h3,h4,h5⟩:=e2
   have ne:p2≠p:=a6' h2 h
   exact ⟨p2,xs,h1,by rw [aj' ne];exact h2,h3,by rw [aj' ne];exact h4,h5⟩
  | own ds=>exact mt ds e2
  | bor ds=>exact mt ds e2
  | fro ds =>
   obtain ⟨p2,xs,f1,f2,f3,f4⟩:=e2
   have ne:p2≠p:=a6' (r.iH _ _ f2) h
   exact ⟨p2,xs,f1,f2,by rw [aj' ne];exact f3,f4⟩
 dist:=r.dist
 bor:=r.bor
theorem Rep.reguard {p:Addr}{o o':HO} (r:Rep K B (upd G p o) I H σ Γ) (hi:I p=none):Rep K B (upd G p o') I (upd H p o') σ Γ where
 iH:=λb u q=>by
  have ne:b≠p:=λz=>by subst z;rw [hi] at q;cases q
  rw [aj' ne];exact r.iH b u q
 gH:=λb u q=>by
  by_cases e:b=p
  ·subst e;rw [av'] at q ⊢;exact q
  ·rw [aj' e] at q ⊢;exact r.gH b u (by rw [aj' e];exact q)
 len:=r.len
 slot:=λi q e=>by
  obtain ⟨v,e1,e2⟩:=r.slot i q e
  refine ⟨v,e1,?_⟩
  have mt:∀ ds,Mt K (upd G p o) I H ds v->Mt K (upd G p o') I (upd H p o') ds v:=λds hh=>by
   obtain ⟨p2,xs,h1,h2,h3,h4,h5⟩:=hh
   have ne:p2≠p:=λz=>by subst z;rw [av'] at h4;cases h4
   rw [aj' ne] at h4
   exact ⟨p2,xs,h1,by rw [aj' ne];exact h2,h3,by rw [aj' ne];exact h4,h5⟩
  cases q with
  | val d=>exact e2
  | dic ds =>
   obtain ⟨p2,xs,h1,h2,h3,h4,h5⟩:=e2
   have ne:p2≠p:=λz=>by subst z;rw [av'] at h4;cases h4
   rw [aj' ne] at h4
   exact ⟨p2,xs,h1,by rw [aj' ne];exact h2,h3,by rw [aj' ne];exact h4,h5⟩
  | own ds=>exact mt ds e2
  | bor ds=>exact mt ds e2
  | fro ds =>
   obtain ⟨p2,xs,f1,f2,f3,f4⟩:=e2
   have ne:p2≠p:=λz=>by rw [z,hi] at f2;cases f2
   rw [aj' ne] at f3
   exact ⟨p2,xs,f1,f2,by rw [aj' ne];exact f3,f4⟩
 dist:=r.dist
 bor:=r.bor
theorem Rep.unguard {p:Addr}{o:HO} (r:Rep K B (upd G p o) I H σ Γ) (hg:G p=none):Rep K B G I H σ Γ/\Apart σ Γ p:=by
 have ap:Apart σ Γ p:=λj q e mm s=>by
  obtain ⟨v,e1,e2⟩:=r.slot j q e
  obtain ⟨p2,xs,h1,h2,h3,h4⟩:=e2.mt mm
  rw [e1,h1] at s
  cases s
  rw [av'] at h4;cases h4
 refine ⟨{ iH:=r.iH,gH:=(aS' hg o).trans r.gH,len:=r.len,slot:=λi q e=>?_,dist:=r.dist,bor:=r.bor },ap⟩
 obtain ⟨v,e1,e2⟩:=r.slot i q e
 refine ⟨v,e1,?_⟩
 have mt:∀ ds,Mt K (upd G p o) I H ds v->Mt K G I H ds v:=λds hh=>by
  obtain ⟨p2,xs,h1,h2,h3,h4,h5⟩:=hh
  have ne:p2≠p:=λz=>by subst z;rw [av'] at h4;cases h4
  rw [aj' ne] at h4
  exact ⟨p2,xs,h1,h2,h3,h4,h5⟩
 cases q with
 | val d=>exact e2
 | dic ds =>
  obtain ⟨p2,xs,h1,h2,h3,h4,h5⟩:=e2
  have ne:p2≠p:=λz=>by subst z;rw [av'] at h4;cases h4
  rw [aj' ne] at h4
  exact ⟨p2,xs,h1,h2,h3,h4,h5⟩
 | own ds=>exact mt ds e2
 | bor ds=>exact mt ds e2
 | fro ds =>
  obtain ⟨p2,xs,f1,f2,f3,f4⟩:=e2
  have ne:p2≠p:=λz=>by rw [z,av'] at f3;cases f3
  rw [aj' ne] at f3
  exact ⟨p2,xs,f1,f2,f3,f4⟩
theorem Grow.unguard {I':Hp}{p:Addr}{o:HO} (g:Grow (upd G p o) I I'):Grow G I I':=⟨g.up,λb u q=>by
 rcases g.new b u q with z | z
 ·exact .inl z
 ·by_cases e:b=p
  ·subst e;rw [av'] at z;cases z
  ·rw [aj' e] at z;exact .inr z⟩
theorem Grow.keepsOut {I':Hp}{p:Addr}{o:HO} (g:Grow (upd G p o) I I') (hi:I p=none):I' p=none:=by
 cases e:I' p with
 | none=>rfl
 | some u =>
  rcases g.new p u e with z | z
  ·rw [hi] at z;cases z
  ·rw [av'] at z;cases z
end
section
variable {X:Cx}{B:BB}{tg elt iter:Expr}{ifs:List Expr}{scope:Scope}{pos:Pos}{N':List Str}{m:Nat}{it:M (List D)}{tgt:D->M Unit}{ts:M Bool}{el:M D}
def TDs (X:Cx) (B:BB) (ifs:List Expr) (g:M Bool):Prop:=PTs X ifs (tTD X.K B g)
theorem dj':TDs X B [] (ret true):=λpins s σ H Q I h=>pM' pins s σ H Q I (by
 obtain ⟨G,I,Γ,b,Γ',r,e1,k⟩:=h
 cases e1
 exact k _ _ r (Grow.refl _ _))
theorem eG' {c:Expr}{g:M Bool} (h:TD X B c g):TDs X B [c] g:=pN' h
theorem m0' {K:PySem.W.Frag}:∀ σ H Q,tO K B (compO m it tgt ts el) σ H Q->tComp m (tI K B it) (tGD K (bUp m B) m tgt) (tTD K (bUp m B) ts) (tD K (bUp m B) el) σ H Q:=λσ H Q q=>by
 obtain ⟨G,I,Γ,rs,Γ',r,e1,k⟩:=q
 obtain ⟨ds,Γ1,e2,e3⟩:=ae' e1
 by_cases hlim:ds.length<=lim
 case neg=>rw [if_neg hlim] at e3;cases e3
 rw [if_pos hlim] at e3
 obtain ⟨Γe,e4,rfl⟩:=pP' e3
 refine ⟨G,I,Γ,ds,Γ1,r,e2,λJ H1 I1 r1 g1 y p hp=>?_⟩
 have gp:=r1.gFree hp
 have ip:=r1.iFree hp
 refine ⟨λi n σ' H'=>∃ acc ad I2 Γ2 rest,Rep K (bUp m B) (upd G p (.lst acc)) I2 H' σ' Γ2/\Grow G I1 I2/\I2 p=none/\IsA K I2 ad acc/\σ'.drop m=σ/\compM tgt ts el (ds.drop i) Γ2=some (rest,Γe)/\ad++rest=rs/\ad.length<=i/\i<=ds.length/\n=ds.length - i,
  ⟨ds.length,[],[],I1,_,rs,(r1.up m).guard hp _,Grow.refl _ _,ip,IsA.nil,by rw [List.drop_append_of_le_length (by simp),List.drop_of_length_le (by simp),List.nil_append],by simpa using e4,rfl,Nat.zero_le _,Nat.zero_le _,rfl⟩,?_⟩
 rintro i n σ2 H2 ⟨acc,ad,I2,Γ2,rest,r2,g2,ip2,ha,hs,e5,rfl,hal,hi,rfl⟩
 obtain ⟨yg,ys⟩:=y i H2 (g2.up.trans r2.iH)
 by_cases hlt:i < ds.length
 ·have hd:ds.drop i=ds[i]::ds.drop (i+1):=List.drop_eq_getElem_cons hlt
  obtain ⟨go,yld⟩:=yg ds[i] (List.getElem?_eq_getElem hlt)
  rw [hd,compM] at e5
  obtain ⟨u,Γ3,e6,e7⟩:=ae' e5
  obtain ⟨b,Γ4,e8,e9⟩:=ae' e7
  refine .inr ⟨go,λx H3 hy=>?_⟩
  have main:∀ I3,Rep K (bUp m B) (upd G p (.lst acc)) I3 H3 σ2 Γ2->Grow (upd G p (.lst acc)) I2 I3->Is K I3 ds[i] x->tGD K (bUp m B) m tgt x σ2 H3 λσ2 H3=>tTD K (bUp m B) ts σ2 H3 λb H4 =>
    if b=true then tD K (bUp m B) el σ2 H4 λy H5=>∃ acc,H5 p=some (.lst acc)/\acc.length < sizeLine/\∃ n',n' < ds.length - i/\∃ acc_1 ad_1 I2 Γ2 rest_1,Rep K (bUp m B) (upd G p (.lst acc_1)) I2 (upd H5 p (.lst (acc++[y]))) σ2 Γ2/\Grow G I1 I2/\I2 p=none/\IsA K I2 ad_1 acc_1/\σ2.drop m=σ/\compM tgt ts el (ds.drop (i+1)) Γ2=some (rest_1,Γe)/\ad_1++rest_1=ad++rest/\ad_1.length<=i+1/\i+1<=ds.length/\n'=ds.length - (i+1)
    else ∃ n',n' < ds.length - i/\∃ acc ad_1 I2 Γ2 rest_1,Rep K (bUp m B) (upd G p (.lst acc)) I2 H4 σ2 Γ2/\Grow G I1 I2/\I2 p=none/\IsA K I2 ad_1 acc/\σ2.drop m=σ/\compM tgt ts el (ds.drop (i+1)) Γ2=some (rest_1,Γe)/\ad_1++rest_1=ad++rest/\ad_1.length<=i+1/\i+1<=ds.length/\n'=ds.length - (i+1):=by
   intro I3 r3 g3 hx
   refine ⟨_,I3,Γ2,ds[i],Γ3,r3,hx,e6,λσ4 H4 I4 r4 g4 hs4=>⟨_,I4,Γ3,b,Γ4,r4,e8,λH5 I5 r5 g5=>?_⟩⟩
   have g35:=g3.trans (g4.trans g5)
   have hs':σ4.drop m=σ:=hs4.trans hs
   cases b with
   | false =>
    refine iteF ⟨ds.length - (i+1),by omega,acc,ad,I5,Γ4,rest,r5,g2.trans g35.unguard,g35.keepsOut ip2,ha.mono g35.up,hs',by simpa using e9,rfl,by omega,hlt,rfl⟩
   | true =>
    simp only [if_true] at e9
    obtain ⟨xd,Γ5,f1,f2⟩:=ae' e9
    obtain ⟨rr,Γ6,f3,f4⟩:=ae' f2
    cases f4
    refine iteT ⟨_,I5,Γ4,xd,Γ5,r5,f1,λyv H6 I6 r6 g6 hy6=>⟨acc,r6.gH _ _ av',?_,ds.length - (i+1),by omega,acc++[yv],ad++[xd],I6,Γ5,rr,?_⟩⟩
    ·rw [← ha.length]
     have h1:lim < sizeLine:=by rw [sizeLine_eq];decide
     omega
    ·have g36:=g35.trans g6
     have ip6:=g36.keepsOut ip2
     exact ⟨r6.reguard ip6,g2.trans g36.unguard,ip6,IsA.append (ha.mono g36.up) (IsA.cons hy6 IsA.nil),hs',f3,by rw [List.append_assoc];rfl,by rw [List.length_append,List.length_singleton];omega,hlt,rfl⟩
  rcases yld x H3 hy with ⟨rfl,hx⟩ | ⟨p2,es,xs,hd2,rfl,hp2,rfl,hx⟩
  ·exact main I2 r2 (Grow.refl _ _) (hx.mono g2.up)
  ·refine main _ (r2.alloc hp2 _) (r2.growAlloc hp2 _) ?_
   rw [hd2]
   exact Is.tup (SqT.of av') ((hx.mono g2.up).mono (aS' (r2.iFree hp2) _))
 ·have hi2:i=ds.length:=by omega
  subst hi2
  rw [List.drop_length] at e5
  cases e5
  rw [List.append_nil] at k
  refine .inl ⟨ys (Nat.le_refl _),?_⟩
  have rd:=Rep.down r2 hs
  obtain ⟨ru,ap⟩:=rd.unguard gp
  exact k p acc H2 I2 ru (g1.trans g2) (r2.gH _ _ av') ip2 gp ap ha
theorem b1' (S:CompScope X.env.scope scope X.N N' m) (hc:X.calm=true) (hi:ITD X B tg iter it)
  (hg:∀ C s H ex,GD (cxC X scope N' C s H ex) (bUp m B) m tg tgt) (ht:∀ C s H ex,TDs (cxC X scope N' C s H ex) (bUp m B) ifs ts) (he:∀ C s H ex,ED (cxC X scope N' C s H ex) (bUp m B) elt el)
  (hs:∀ x,foldedSetIterable iter X.env x=pure x:=by intro _;rfl):EO X B (.ListComp elt [⟨tg,iter,ifs,0⟩] scope pos) (compO m it tgt ts el):=PE.imp (pO' (g:=tGD X.K (bUp m B) m tgt) (tt:=tTD X.K (bUp m B) ts) (te:=tD X.K (bUp m B) el) S hc hi hg ht he hs) m0'
theorem fY' {i:Nat}{y:Str}{py spos:Pos} (S:CompScope X.env.scope scope X.N N' m) (hc:X.calm=true) (hN:X.N.Nodup) (hi:ITD X B tg iter it)
  (hg:∀ C s H ex,GD (cxC X scope N' C s H ex) (bUp m B) m tg tgt) (ht:∀ C s H ex,TDs (cxC X scope N' C s H ex) (bUp m B) ifs ts) (he:∀ C s H ex,ED (cxC X scope N' C s H ex) (bUp m B) elt el)
  (hi':X.N[i]?=some y:=by rfl) (hy:X.env.scope.names.lookup y=some .local:=by rfl) (hsw:swapsWith (.ListComp elt [⟨tg,iter,ifs,0⟩] scope pos) (some (.Name y py)) spos.line X.env=pure true:=by rfl)
  (hs:∀ x,foldedSetIterable iter X.env x=pure x:=by intro _;rfl):SD X B (.Assign [.Name y py] (.ListComp elt [⟨tg,iter,ifs,0⟩] scope pos) spos) (setV i (frz (compO m it tgt ts el))):=PS.imp (lP' (g:=tGD X.K (bUp m B) m tgt) (tt:=tTD X.K (bUp m B) ts) (te:=tD X.K (bUp m B) el) S hc hN hi' hy hi hg ht he hsw hs) λE σ H q=>by
 obtain ⟨G,I,Γ,f,Γ',r,e1,k⟩:=q
 obtain ⟨d1,Γ1,e2,e3⟩:=ae' e1
 obtain ⟨d2,Γ2,e4,e5⟩:=ae' e3
 cases e5
 obtain ⟨hl,rfl⟩:=d9' e4
 obtain ⟨ds,Γ3,e6,e7⟩:=ae' e2
 cases e7
 refine m0' σ H _ ⟨G,I,Γ,ds,_,r,e6,λp xs H1 I1 r1 g1 h1 h2 h3 h4 h5=>?_⟩
 refine k _ H1 _ ((r1.freeze h1 h2 h4).store (by rw [r1.len];exact hl) (Is.lst (RdK.of av') (h5.mono (aS' h2 _))) (λm=>nomatch m) (λ_ z=>nomatch z)) (g1.trans (growFreeze h2 h3))
end
end DL
namespace DL
open PySem PySem.Spec PyProof.Rows L2
mutual
def deq:D->D->Bool
 | .non,.non=>true
 | .bl a,.bl b=>a == b
 | .bl a,.int j=>(if a then (1:Int) else 0) == j
 | .int i,.bl b=>i == (if b then (1:Int) else 0)
 | .int i,.int j=>i == j
 | .str x,.str y=>x == y
 | .tup xs,.tup ys=>deqA xs ys
 | .lst xs,.lst ys=>deqA xs ys
 | _,_=>false
def deqA:List D->List D->Bool
 | [],[]=>true
 | x::xs,y::ys=>deq x y&&deqA xs ys
 | _,_=>false
end
mutual
def dep:D->Nat
 | .tup xs=>depA xs+1
 | .lst xs=>depA xs+1
 | _=>0
def depA:List D->Nat
 | []=>0
 | x::xs=>max (dep x) (depA xs)
end
mutual
theorem eQ':∀ a:D,deq a a=true
 | .non=>by rw [deq]
 | .bl b=>by rw [deq];exact beq_self_eq_true b
 | .int b=>by rw [deq];exact beq_self_eq_true b
 | .str b=>by rw [deq];exact beq_self_eq_true b
 | .tup xs=>by rw [deq];exact bL' xs
 | .lst xs=>by rw [deq];exact bL' xs
theorem bL':∀ a:List D,deqA a a=true
 | []=>by rw [deqA]
 | x::xs=>by rw [deqA,eQ' x,bL' xs];rfl
end
theorem bD':∀ {xs:List D}{x:D},x∈xs->dep x<=depA xs
 | y::ys,x,h=>by
  rw [depA]
  rcases List.mem_cons.mp h with rfl | h
  ·omega
  ·have:=bD' h;omega
theorem dS':∀ (xs ys:List D),((List.range (min xs.length ys.length)).all (λj=>deq (xs.getD j .non) (ys.getD j .non))&&(xs.length == ys.length))=deqA xs ys
 | [],[]=>by rw [deqA];rfl
 | [],y::ys=>by rw [deqA]<;>simp
 | x::xs,[]=>by rw [deqA]<;>simp
 | x::xs,y::ys=>by
  have ih:=dS' xs ys
  have e:min (x::xs).length (y::ys).length=min xs.length ys.length+1:=by simp only [List.length_cons];omega
  rw [deqA,← ih,e,List.range_succ_eq_map,List.all_cons,List.all_map]
  have e2:((x::xs).length == (y::ys).length)=(xs.length == ys.length):=by
   simp only [List.length_cons]
   cases h:xs.length == ys.length
   ·simp at h ⊢;omega
   ·simp at h ⊢;omega
  rw [e2,Bool.and_assoc]
  rfl
theorem ou' {xs ys:List D} (h:xs.length≠ys.length):deqA xs ys=false:=by
 rw [← dS']
 have:(xs.length == ys.length)=false:=by simpa using h
 rw [this,Bool.and_false]
section
variable {X:Cx}{pins:List (Addr×Obj)}{σ:L2.St}{H:Hp}{s:Shared}
theorem IsA.getU {K:PySem.W.Frag}{I:Hp}{ds:List D}{xs:List V}{us:List Value} (h:IsA K I ds xs) (r:Vals xs us){j:Nat} (hj:j < us.toArray.size):∃ v,RelV v us.toArray[j]/\Is K I (ds.getD j .non) v:=by
 have h1:=h.length
 have h2:=r.length
 have hj':j < us.length:=by simpa using hj
 have hd:ds[j]?=some ds[j]:=List.getElem?_eq_getElem (by omega)
 obtain ⟨v,e1,e2⟩:=h.get hd
 obtain ⟨u,e3,e4⟩:=r.get e1
 have e5:us.toArray[j]=u:=by
  rw [List.getElem?_eq_getElem hj'] at e3
  simpa using e3
 refine ⟨v,by rw [e5];exact e4,?_⟩
 rw [List.getD_eq_getElem?_getD,hd]
 exact e2
theorem rdL {a:Addr}{xs:List V}{K:PySem.W.Frag} (h:RdK K H a xs):SqL K H a xs:=h.sq
mutual
theorem fk' (I:Inv X pins σ H s):∀ {a b:D}{v:V},Is X.K H a v->Is X.K H b v->a=b
 | .non,b,v,h,h'=>by
  have e:=bB' h;subst e
  cases b<;>first | rfl | (rw [Is] at h';obtain ⟨_,_,e,_⟩:=h';cases e) | (rw [Is] at h';cases h')
 | .bl x,b,v,h,h'=>by
  have e:=a3' h;subst e
  cases b<;>first | (rw [Is] at h';obtain ⟨_,_,e,_⟩:=h';cases e) | (rw [Is] at h';cases h';rfl) | (rw [Is] at h';cases h')
 | .int x,b,v,h,h'=>by
  have e:=am' h;subst e
  cases b<;>first | (rw [Is] at h';obtain ⟨_,_,e,_⟩:=h';cases e) | (rw [Is] at h';cases h';rfl) | (rw [Is] at h';cases h')
 | .str x,b,v,h,h'=>by
  have e:=bA' h;subst e
  cases b<;>first | (rw [Is] at h';obtain ⟨_,_,e,_⟩:=h';cases e) | (rw [Is] at h';cases h';rfl) | (rw [Is] at h';cases h')
 | .tup ds,b,v,h,h'=>by
  obtain ⟨p,xs,rfl,h1,h2⟩:=as' h
  cases b with
  | tup es =>
   obtain ⟨p',xs',e,h3,h4⟩:=as' h'
   cases e
   have:=I.tuple_inj h1 h3
   subst this
   rw [hJ' I h2 h4]
  | lst es =>
   obtain ⟨p',xs',e,h3,h4⟩:=aB' h'
   cases e
   obtain ⟨i1,_,t1,_⟩:=I.tuple h1
   obtain ⟨i2,_,t2,_⟩:=I.list (rdL h3)
   exact absurd rfl (PySem.SeqAt.ne_of_list_tuple t2.isList t1)
  | _=>rw [Is] at h';cases h'
 | .lst ds,b,v,h,h'=>by
  obtain ⟨p,xs,rfl,h1,h2⟩:=aB' h
  cases b with
  | lst es =>
   obtain ⟨p',xs',e,h3,h4⟩:=aB' h'
   cases e
   have:=I.list_inj (rdL h1) (rdL h3)
   subst this
   rw [hJ' I h2 h4]
  | tup es =>
   obtain ⟨p',xs',e,h3,h4⟩:=as' h'
   cases e
   obtain ⟨i1,_,t1,_⟩:=I.tuple h3
   obtain ⟨i2,_,t2,_⟩:=I.list (rdL h1)
   exact absurd rfl (PySem.SeqAt.ne_of_list_tuple t2.isList t1)
  | _=>rw [Is] at h';cases h'
theorem hJ' (I:Inv X pins σ H s):∀ {a b:List D}{v:List V},IsA X.K H a v->IsA X.K H b v->a=b
 | [],b,v,h,h'=>by
  have e:=h.nil_inv;subst e
  cases b with
  | nil=>rfl
  | cons d r=>obtain ⟨_,_,e,_⟩:=h'.cons_inv;cases e
 | d::ds,b,v,h,h'=>by
  obtain ⟨x,r,rfl,h1,h2⟩:=h.cons_inv
  cases b with
  | nil=>have:=h'.nil_inv;cases this
  | cons e es =>
   obtain ⟨x',r',e',h3,h4⟩:=h'.cons_inv
   cases e'
   rw [fk' I h1 h3,hJ' I h2 h4]
end
open PySem.SeqAt in
theorem m1' (I:Inv X pins σ H s){A:Around} (hu:A.units < cLine){a b:D}{x y:V}{u v:Value} (ha:Is X.K H a x) (hb:Is X.K H b y) (ru:RelV x u) (rv:RelV y v)
  (ht:∀ xs ys,a=.tup xs->b=.tup ys->RcAt A s u v (deq a b)/\EqAt A s u v (deq a b)/\RcNeAt A s u v (!deq a b))
  (hl:∀ xs ys,a=.lst xs->b=.lst ys->RcAt A s u v (deq a b)/\EqAt A s u v (deq a b)/\RcNeAt A s u v (!deq a b)):RcAt A s u v (deq a b)/\EqAt A s u v (deq a b)/\RcNeAt A s u v (!deq a b):=by
 cases a with
 | non =>
  have e:=bB' ha;subst e;cases ru
  cases b with
  | non=>have e:=bB' hb;subst e;cases rv;rw [deq];exact ⟨.none_none,.same _,.none_none⟩
  | bl j=>have e:=a3' hb;subst e;cases rv;rw [deq]<;>first | exact ⟨.none_bool _,.none_bool _,.none_bool _⟩ | (intros;contradiction)
  | int j=>have e:=am' hb;subst e;obtain ⟨t,rfl⟩:=rv;rw [deq]<;>first | exact ⟨.none_int _ _,.none_int _ _,.none_int _ _⟩ | (intros;contradiction)
  | str j=>have e:=bA' hb;subst e;obtain ⟨t,rfl⟩:=rv;rw [deq]<;>first | exact ⟨.none_str _ _,.none_str _ _,.none_str _ _⟩ | (intros;contradiction)
  | tup j =>
   obtain ⟨p,xs,rfl,h1,h2⟩:=as' hb;cases rv
   obtain ⟨its,_,t,_⟩:=I.tuple h1
   rw [deq]<;>first | exact ⟨.none_tuple t hu,.none_tuple t hu,.none_tuple t hu⟩ | (intros;contradiction)
  | lst j =>
   obtain ⟨p,xs,rfl,h1,h2⟩:=aB' hb;cases rv
   obtain ⟨its,_,t,_⟩:=I.list (rdL h1)
   have t:=t.isList
   rw [deq]<;>first | exact ⟨.none_list t hu,.none_list t hu,.none_list t hu⟩ | (intros;contradiction)
 | bl i =>
  have e:=a3' ha;subst e;cases ru
  cases b with
  | non=>have e:=bB' hb;subst e;cases rv;rw [deq]<;>first | exact ⟨.bool_none _,.bool_none _,.bool_none _⟩ | (intros;contradiction)
  | bl j=>have e:=a3' hb;subst e;cases rv;rw [deq];exact ⟨.bool_bool _ _,.bool_bool _ _,.bool_bool _ _⟩
  | int j=>have e:=am' hb;subst e;obtain ⟨t,rfl⟩:=rv;rw [deq];exact ⟨.bool_int _ _ _,.bool_int _ _ _,.bool_int _ _ _⟩
  | str j=>have e:=bA' hb;subst e;obtain ⟨t,rfl⟩:=rv;rw [deq]<;>first | exact ⟨.bool_str _ _ _,.bool_str _ _ _,.bool_str _ _ _⟩ | (intros;contradiction)
  | tup j =>
   obtain ⟨p,xs,rfl,h1,h2⟩:=as' hb;cases rv
   obtain ⟨its,_,t,_⟩:=I.tuple h1
   rw [deq]<;>first | exact ⟨.bool_tuple _ t hu,.bool_tuple _ t hu,.bool_tuple _ t hu⟩ | (intros;contradiction)
  | lst j =>
   obtain ⟨p,xs,rfl,h1,h2⟩:=aB' hb;cases rv
   obtain ⟨its,_,t,_⟩:=I.list (rdL h1)
   have t:=t.isList
   rw [deq]<;>first | exact ⟨.bool_list _ t hu,.bool_list _ t hu,.bool_list _ t hu⟩ | (intros;contradiction)
 | int i =>
  have e:=am' ha;subst e;obtain ⟨t0,rfl⟩:=ru
  cases b with
  | non=>have e:=bB' hb;subst e;cases rv;rw [deq]<;>first | exact ⟨.int_none _ _,.int_none _ _,.int_none _ _⟩ | (intros;contradiction)
  | bl j=>have e:=a3' hb;subst e;cases rv;rw [deq];exact ⟨.int_bool _ _ _,.int_bool _ _ _,.int_bool _ _ _⟩
  | int j=>have e:=am' hb;subst e;obtain ⟨t,rfl⟩:=rv;rw [deq];exact ⟨.int_int _ _ _ _,.int_int _ _ _ _,.int_int _ _ _ _⟩
  | str j=>have e:=bA' hb;subst e;obtain ⟨t,rfl⟩:=rv;rw [deq]<;>first | exact ⟨.int_str _ _ _ _,.int_str _ _ _ _,.int_str _ _ _ _⟩ | (intros;contradiction)
  | tup j =>
   obtain ⟨p,xs,rfl,h1,h2⟩:=as' hb;cases rv
   obtain ⟨its,_,t,_⟩:=I.tuple h1
   rw [deq]<;>first | exact ⟨.int_tuple _ _ t hu,.int_tuple _ _ t hu,.int_tuple _ _ t hu⟩ | (intros;contradiction)
  | lst j =>
   obtain ⟨p,xs,rfl,h1,h2⟩:=aB' hb;cases rv
   obtain ⟨its,_,t,_⟩:=I.list (rdL h1)
   have t:=t.isList
   rw [deq]<;>first | exact ⟨.int_list _ _ t hu,.int_list _ _ t hu,.int_list _ _ t hu⟩ | (intros;contradiction)
 | str i =>
  have e:=bA' ha;subst e;obtain ⟨t0,rfl⟩:=ru
  cases b with
  | non=>have e:=bB' hb;subst e;cases rv;rw [deq]<;>first | exact ⟨.str_none _ _,.str_none _ _,.str_none _ _⟩ | (intros;contradiction)
  | bl j=>have e:=a3' hb;subst e;cases rv;rw [deq]<;>first | exact ⟨.str_bool _ _ _,.str_bool _ _ _,.str_bool _ _ _⟩ | (intros;contradiction)
  | int j=>have e:=am' hb;subst e;obtain ⟨t,rfl⟩:=rv;rw [deq]<;>first | exact ⟨.str_int _ _ _ _,.str_int _ _ _ _,.str_int _ _ _ _⟩ | (intros;contradiction)
  | str j=>have e:=bA' hb;subst e;obtain ⟨t,rfl⟩:=rv;rw [deq];exact ⟨.str_str _ _ _ _,.str_str _ _ _ _,.str_str _ _ _ _⟩
  | tup j =>
   obtain ⟨p,xs,rfl,h1,h2⟩:=as' hb;cases rv
   obtain ⟨its,_,t,_⟩:=I.tuple h1
   rw [deq]<;>first | exact ⟨.str_tuple _ _ t hu,.str_tuple _ _ t hu,.str_tuple _ _ t hu⟩ | (intros;contradiction)
  | lst j =>
   obtain ⟨p,xs,rfl,h1,h2⟩:=aB' hb;cases rv
   obtain ⟨its,_,t,_⟩:=I.list (rdL h1)
   have t:=t.isList
   rw [deq]<;>first | exact ⟨.str_list _ _ t hu,.str_list _ _ t hu,.str_list _ _ t hu⟩ | (intros;contradiction)
 | tup i =>
  obtain ⟨q,ys,rfl,g1,g2⟩:=as' ha;cases ru
  obtain ⟨jts,_,t',_⟩:=I.tuple g1
  cases b with
  | non=>have e:=bB' hb;subst e;cases rv;rw [deq]<;>first | exact ⟨.tuple_none t' hu,.tuple_none t' hu,.tuple_none t' hu⟩ | (intros;contradiction)
  | bl j=>have e:=a3' hb;subst e;cases rv;rw [deq]<;>first | exact ⟨.tuple_bool _ t' hu,.tuple_bool _ t' hu,.tuple_bool _ t' hu⟩ | (intros;contradiction)
  | int j=>have e:=am' hb;subst e;obtain ⟨t,rfl⟩:=rv;rw [deq]<;>first | exact ⟨.tuple_int _ _ t' hu,.tuple_int _ _ t' hu,.tuple_int _ _ t' hu⟩ | (intros;contradiction)
  | str j=>have e:=bA' hb;subst e;obtain ⟨t,rfl⟩:=rv;rw [deq]<;>first | exact ⟨.tuple_str _ _ t' hu,.tuple_str _ _ t' hu,.tuple_str _ _ t' hu⟩ | (intros;contradiction)
  | tup j=>exact ht _ _ rfl rfl
  | lst j =>
   obtain ⟨p,xs,rfl,h1,h2⟩:=aB' hb;cases rv
   obtain ⟨its,_,t,_⟩:=I.list (rdL h1)
   have t:=t.isList
   rw [deq]<;>first | exact ⟨.tuple_list t' t hu,.tuple_list t' t hu,.tuple_list t' t hu⟩ | (intros;contradiction)
 | lst i =>
  obtain ⟨q,ys,rfl,g1,g2⟩:=aB' ha;cases ru
  obtain ⟨jts,_,t',_⟩:=I.list (rdL g1)
  have t':=t'.isList
  cases b with
  | non=>have e:=bB' hb;subst e;cases rv;rw [deq]<;>first | exact ⟨.list_none t' hu,.list_none t' hu,.list_none t' hu⟩ | (intros;contradiction)
  | bl j=>have e:=a3' hb;subst e;cases rv;rw [deq]<;>first | exact ⟨.list_bool _ t' hu,.list_bool _ t' hu,.list_bool _ t' hu⟩ | (intros;contradiction)
  | int j=>have e:=am' hb;subst e;obtain ⟨t,rfl⟩:=rv;rw [deq]<;>first | exact ⟨.list_int _ _ t' hu,.list_int _ _ t' hu,.list_int _ _ t' hu⟩ | (intros;contradiction)
  | str j=>have e:=bA' hb;subst e;obtain ⟨t,rfl⟩:=rv;rw [deq]<;>first | exact ⟨.list_str _ _ t' hu,.list_str _ _ t' hu,.list_str _ _ t' hu⟩ | (intros;contradiction)
  | lst j=>exact hl _ _ rfl rfl
  | tup j =>
   obtain ⟨p,xs,rfl,h1,h2⟩:=as' hb;cases rv
   obtain ⟨its,_,t,_⟩:=I.tuple h1
   rw [deq]<;>first | exact ⟨.list_tuple t' t hu,.list_tuple t' t hu,.list_tuple t' t hu⟩ | (intros;contradiction)
open PySem.SeqAt in
theorem fP' (I:Inv X pins σ H s):∀ (n:Nat) (A:Around),A.units+n < cLine->∀ (a b:D) (x y:V) (u v:Value),dep a<=n\/dep b<=n->Is X.K H a x->Is X.K H b y->RelV x u->RelV y v->RcAt A s u v (deq a b)/\EqAt A s u v (deq a b)/\RcNeAt A s u v (!deq a b):=by
 intro n
 induction n with
 | zero =>
  intro A hu a b x y u v hd ha hb ru rv
  refine m1' I (by omega) ha hb ru rv (λxs ys e1 e2=>?_) (λxs ys e1 e2=>?_)<;>(subst e1;subst e2;rw [dep,dep] at hd;omega)
 | succ n ih =>
  intro A hu a b x y u v hd ha hb ru rv
  have hu1:A.in1.units+n < cLine:=by show A.units+1+n < cLine;omega
  refine m1' I (by omega) ha hb ru rv (λds es e1 e2=>?_) (λds es e1 e2=>?_)
  ·subst e1;subst e2
   obtain ⟨p,xs,rfl,h1,h2⟩:=as' ha
   obtain ⟨q,ys,rfl,h3,h4⟩:=as' hb
   cases ru;cases rv
   obtain ⟨its,r1,t1,_⟩:=I.tuple h1
   obtain ⟨jts,r2,t2,_⟩:=I.tuple h3
   have l1:its.toArray.size=ds.length:=by rw [List.size_toArray,← r1.length,h2.length]
   have l2:jts.toArray.size=es.length:=by rw [List.size_toArray,← r2.length,h4.length]
   have hk:∀ j (g1:j < its.toArray.size) (g2:j < jts.toArray.size),EqAt A.in1 s its.toArray[j] jts.toArray[j] (deq (ds.getD j .non) (es.getD j .non)):=λj g1 g2=>by
    obtain ⟨v1,q1,q2⟩:=h2.getU r1 g1
    obtain ⟨v2,q3,q4⟩:=h4.getU r2 g2
    refine (ih A.in1 hu1 _ _ _ _ _ _ ?_ q2 q4 q1 q3).2.1
    have m1:ds.getD j .non∈ds:=by
     rw [List.getD_eq_getElem?_getD,List.getElem?_eq_getElem (by omega)]
     exact List.getElem_mem _
    have m2:es.getD j .non∈es:=by
     rw [List.getD_eq_getElem?_getD,List.getElem?_eq_getElem (by omega)]
     exact List.getElem_mem _
    have k1:=bD' m1
    have k2:=bD' m2
    rw [dep,dep] at hd
    omega
   have re:((List.range (min its.toArray.size jts.toArray.size)).all (λj=>deq (ds.getD j .non) (es.getD j .non))&&its.toArray.size == jts.toArray.size)=deqA ds es:=by
    rw [l1,l2];exact dS' ds es
   have R1:=RcAt.tuples (A:=A) t1 t2 (by omega) hk
   have R3:=RcNeAt.tuples (A:=A) t1 t2 (by omega) hk
   rw [re] at R1 R3
   have ed:deq (.tup ds) (.tup es)=deqA ds es:=by rw [deq]
   rw [ed]
   refine ⟨R1,?_,R3⟩
   by_cases hpq:p=q
   ·subst hpq
    have:=fk' I ha hb
    cases this
    rw [bL']
    exact .same _
   ·exact .of_refs hpq R1
  ·subst e1;subst e2
   obtain ⟨p,xs,rfl,h1,h2⟩:=aB' ha
   obtain ⟨q,ys,rfl,h3,h4⟩:=aB' hb
   cases ru;cases rv
   obtain ⟨its,r1,t1,_⟩:=I.list (rdL h1)
   obtain ⟨jts,r2,t2,_⟩:=I.list (rdL h3)
   have t1:=t1.isList
   have t2:=t2.isList
   have l1:its.toArray.size=ds.length:=by rw [List.size_toArray,← r1.length,h2.length]
   have l2:jts.toArray.size=es.length:=by rw [List.size_toArray,← r2.length,h4.length]
   have ed:deq (.lst ds) (.lst es)=deqA ds es:=by rw [deq]
   rw [ed]
   have fin:RcAt A s (.ref p) (.ref q) (deqA ds es)/\RcNeAt A s (.ref p) (.ref q) (!deqA ds es):=by
    by_cases hl:ds.length=es.length
    ·have hk:∀ j (g1:j < its.toArray.size) (g2:j < jts.toArray.size),EqAt A.in1 s its.toArray[j] jts.toArray[j] (deq (ds.getD j .non) (es.getD j .non)):=λj g1 g2=>by
      obtain ⟨v1,q1,q2⟩:=h2.getU r1 g1
      obtain ⟨v2,q3,q4⟩:=h4.getU r2 g2
      refine (ih A.in1 hu1 _ _ _ _ _ _ ?_ q2 q4 q1 q3).2.1
      have m1:ds.getD j .non∈ds:=by
       rw [List.getD_eq_getElem?_getD,List.getElem?_eq_getElem (by omega)]
       exact List.getElem_mem _
      have m2:es.getD j .non∈es:=by
       rw [List.getD_eq_getElem?_getD,List.getElem?_eq_getElem (by omega)]
       exact List.getElem_mem _
      have k1:=bD' m1
      have k2:=bD' m2
      rw [dep,dep] at hd
      omega
     have re:(List.range its.toArray.size).all (λj=>deq (ds.getD j .non) (es.getD j .non))=deqA ds es:=by
      rw [← dS' ds es,l1,hl,Nat.min_self,beq_self_eq_true,Bool.and_true]
     have R1:=RcAt.lists (A:=A) t1 t2 (by omega) (by omega) hk
     have R3:=RcNeAt.lists (A:=A) t1 t2 (by omega) (by omega) hk
     rw [re] at R1 R3
     exact ⟨R1,R3⟩
    ·rw [ou' hl]
     have hne:(its.toArray.size != jts.toArray.size)=true:=by rw [l1,l2];simpa using hl
     exact ⟨.lists_lengths t1 t2 hne (by omega),.lists_lengths t1 t2 hne (by omega)⟩
   refine ⟨fin.1,?_,fin.2⟩
   by_cases hpq:p=q
   ·subst hpq
    have:=fk' I ha hb
    cases this
    rw [bL']
    exact .same _
   ·exact .of_refs hpq fin.1
def rEqD (K:PySem.W.Frag) (neg:Bool):R2:=λx y H Q=>∃ a b,Is K H a x/\Is K H b y/\(dep a<=100\/dep b<=100)/\Q (.bl (if neg then !deq a b else deq a b)) H
theorem m2' (hu:X.A.units+100 < cLine):OpR X (compareOp .Eq) (rEqD X.K false):=by
 intro pins s σ H x y v u Q I rx ry h
 obtain ⟨a,b,h1,h2,h3,q⟩:=h
 exact (fP' I 100 X.A hu a b x y v u h3 h1 h2 rx ry).1 _ _ _ _ ⟨.bl (deq a b),H,I,rfl,q⟩
theorem m3' (hu:X.A.units+100 < cLine):OpR X (compareOp .NotEq) (rEqD X.K true):=by
 intro pins s σ H x y v u Q I rx ry h
 obtain ⟨a,b,h1,h2,h3,q⟩:=h
 exact (fP' I 100 X.A hu a b x y v u h3 h1 h2 rx ry).2.2 _ _ _ _ ⟨.bl (!deq a b),H,I,rfl,q⟩
def rInD (K:PySem.W.Frag) (neg:Bool):R2:=λx y H Q=>∃ a ds,Is K H a x/\(Is K H (.lst ds) y\/Is K H (.tup ds) y)/\(dep a<=99)/\Q (.bl (if neg then !ds.any (λd=>deq d a) else ds.any λd=>deq d a)) H
theorem ov' {K:PySem.W.Frag}{ds:List D}{xs:List V}{us:List Value}{f:D->Bool}{e:Value->Bool} (h:IsA K H ds xs) (r:Vals xs us) (hf:∀ d v u,d∈ds->Is K H d v->RelV v u->e u=f d):us.any e=ds.any f:=by
 induction ds generalizing xs us with
 | nil=>have:=h.nil_inv;subst this;cases r;rfl
 | cons d ds ih =>
  obtain ⟨x,xr,rfl,h1,h2⟩:=h.cons_inv
  cases r with
  | cons r1 r2 =>
   rw [List.any_cons,List.any_cons,hf d _ _ List.mem_cons_self h1 r1,ih h2 r2 λd v u hd=>hf d v u (List.mem_cons_of_mem _ hd)]
theorem pQ' (hu:X.A.units+100 < cLine){neg:Bool}{pins:List (Addr×Obj)}{σ:L2.St}{H:Hp}{s:Shared}{x y:V}{v u:Value}{Q:VK} (I:Inv X pins σ H s) (rx:RelV x v) (ry:RelV y u) (h:rInD X.K neg x y H Q) :
  ∃ (its:Array Value) (e:Value->Bool) (l:Addr),u=.ref l/\(s.heap.IsList l its\/s.heap.IsTuple l its)/\(∀ z,z∈its->PySem.SeqAt.EqAt X.A.in1 s z v (e z))/\Q (.bl (if neg then !its.any e else its.any e)) H:=by
 obtain ⟨a,ds,h1,h2,h3,q⟩:=h
 have hu1:X.A.in1.units+99 < cLine:=by show X.A.units+1+99 < cLine;omega
 -- every item has its data: e reads it off
 have key:∀ (xs:List V) (its:List Value),IsA X.K H ds xs->Vals xs its->∃ e:Value->Bool,(∀ z,z∈its.toArray->PySem.SeqAt.EqAt X.A.in1 s z v (e z))/\its.toArray.any e=ds.any λd=>deq d a:=by
  intro xs its ha r
  have ex:∀ z:Value,∃ b:Bool,∀ d w,d∈ds->Is X.K H d w->RelV w z->b=deq d a:=λz=>by
   by_cases hz:∃ d w,d∈ds/\Is X.K H d w/\RelV w z
   ·obtain ⟨d,w,hd,hi,hr⟩:=hz
    refine ⟨deq d a,λd' w' hd' hi' hr'=>?_⟩
    have:=RelV.inj hr hr'
    subst this
    rw [fk' I hi hi']
   ·exact ⟨false,λd w hd hi hr=>absurd ⟨d,w,hd,hi,hr⟩ hz⟩
  refine ⟨λz=>(ex z).choose,λz hz=>?_,?_⟩
  ·have hz':z∈its:=by simpa using hz
   obtain ⟨j,hj,ej⟩:=List.mem_iff_getElem.mp hz'
   obtain ⟨w,q1,q2⟩:=ha.getU r (j:=j) (by simpa using hj)
   have q1':RelV w z:=by
    have:its.toArray[j]'(by simpa using hj)=z:=by simpa using ej
    rw [← this];exact q1
   have hm:ds.getD j .non∈ds:=by
    have l1:=ha.length
    have l2:=r.length
    rw [List.getD_eq_getElem?_getD,List.getElem?_eq_getElem (by omega)]
    exact List.getElem_mem _
   show PySem.SeqAt.EqAt X.A.in1 s z v (ex z).choose
   rw [(ex z).choose_spec _ w hm q2 q1']
   exact (fP' I 99 X.A.in1 hu1 _ a w x z v (.inr h3) q2 h1 q1' rx).2.1
  ·have:its.toArray.any (λz=>(ex z).choose)=its.any (λz=>(ex z).choose):=by simp
   rw [this]
   exact ov' ha r λd w z hd hi hr=>(ex z).choose_spec d w hd hi hr
 rcases h2 with h2 | h2
 ·obtain ⟨l,xs,rfl,g1,g2⟩:=aB' h2
  cases ry
  obtain ⟨its,r,t,_⟩:=I.list (rdL g1)
  obtain ⟨e,k1,k2⟩:=key xs its g2 r
  exact ⟨its.toArray,e,l,rfl,.inl t.isList,k1,by rw [k2];exact q⟩
 ·obtain ⟨l,xs,rfl,g1,g2⟩:=as' h2
  cases ry
  obtain ⟨its,r,t,_⟩:=I.tuple g1
  obtain ⟨e,k1,k2⟩:=key xs its g2 r
  exact ⟨its.toArray,e,l,rfl,.inr t,k1,by rw [k2];exact q⟩
theorem rg' (hu:X.A.units+100 < cLine):OpR X (compareOp .In) (rInD X.K false):=by
 intro pins s σ H x y v u Q I rx ry h
 obtain ⟨its,e,l,rfl,hl,he,q⟩:=pQ' hu I rx ry h
 rcases hl with hl | hl
 ·exact PySem.SeqAt.in_listAt e hl he ⟨.bl (its.any e),H,I,rfl,q⟩
 ·exact PySem.SeqAt.in_tupleAt e hl he ⟨.bl (its.any e),H,I,rfl,q⟩
end
end DL
set_option exponentiation.threshold 2000
namespace DL
open PySem PySem.Spec PyProof.Rows L2
def intF (C:Int->Int->Bool) (g:Int->Int->D) (a b:D):Option D:=match a,b with
 | .int i,.int j=>if C i j then some (g i j) else none
 | _,_=>none
theorem f8' {C:Int->Int->Bool}{g:Int->Int->D}{a b d:D} (h:intF C g a b=some d):∃ i j,a=.int i/\b=.int j/\C i j=true/\d=g i j:=by
 unfold intF at h
 split at h
 ·obtain ⟨h1,h2⟩:=aw' h
  exact ⟨_,_,rfl,rfl,h1,h2⟩
 ·cases h
def tt2 (_ _:Int):Bool:=true
theorem od_I {K:PySem.W.Frag}{C:Int->Int->Prop}{c:Int->Int->Bool}{g:Int->Int->Int} (hc:∀ i j,c i j=true->C i j):OpD K (rI C λi j=>.int (g i j)) (intF c λi j=>.int (g i j)):=λa b d e B G I H σ Γ x y Q r hx hy k=>by
 obtain ⟨i,j,rfl,rfl,h,rfl⟩:=f8' e
 exact ⟨i,j,am' hx,am' hy,hc i j h,k.now r (Is.int _)⟩
theorem sd' {K:PySem.W.Frag}{g:Int->Int->Int}:OpD K (rI0 λi j=>.int (g i j)) (intF tt2 λi j=>.int (g i j)):=λa b d e B G I H σ Γ x y Q r hx hy k=>by
 obtain ⟨i,j,rfl,rfl,h,rfl⟩:=f8' e
 exact ⟨i,j,am' hx,am' hy,k.now r (Is.int _)⟩
theorem cI' {K:PySem.W.Frag}{g:Int->Int->Bool}:OpD K (rI0 λi j=>.bl (g i j)) (intF tt2 λi j=>.bl (g i j)):=λa b d e B G I H σ Γ x y Q r hx hy k=>by
 obtain ⟨i,j,rfl,rfl,h,rfl⟩:=f8' e
 exact ⟨i,j,am' hx,am' hy,k.now r (Is.bl _)⟩
def subI:D->D->Option D:=intF tt2 λi j=>.int (i - j)
def mulI:D->D->Option D:=intF (λi j=>decide ((-(2 ^ 64) < i/\i < 2 ^ 64)\/(-(2 ^ 64) < j/\j < 2 ^ 64))) λi j=>.int (i*j)
def modI:D->D->Option D:=intF (λ_ j=>decide (0 < j)) λi j=>.int (i % j)
def divI:D->D->Option D:=intF (λ_ j=>decide (0 < j/\j < 2 ^ 200)) λi j=>.int (i / j)
def powI:D->D->Option D:=intF (λi j=>decide (0<=j/\j<=1000000/\i.natAbs < 2 ^ 64)) λi j=>.int (i ^ j.toNat)
def ltI:D->D->Option D:=intF tt2 λi j=>.bl (decide (i < j))
def leI:D->D->Option D:=intF tt2 λi j=>.bl (decide (i<=j))
def gtI:D->D->Option D:=intF tt2 λi j=>.bl (decide (j < i))
def geI:D->D->Option D:=intF tt2 λi j=>.bl (decide (j<=i))
section
variable {X:Cx}{B:BB}{a b c e:Expr}{es:List Expr}{pos:Pos}{ga gb gc:M D}
theorem rh' (ha:ED X B a ga) (hb:ED X B b gb):ED X B (.BinOp a .Sub b pos) (op2 subI ga gb):=fM' qS' sd' ha hb
theorem cc' (ha:ED X B a ga) (hb:ED X B b gb):ED X B (.BinOp a .Mult b pos) (op2 mulI ga gb):=fM' qT' (od_I (C:=CMul) λi j h=>(of_decide_eq_true h:_\/_)) ha hb
theorem cE' (ha:ED X B a ga) (hb:ED X B b gb):ED X B (.BinOp a .Mod b pos) (op2 modI ga gb):=fM' qU' (od_I λi j h=>of_decide_eq_true h) ha hb
theorem jk' (ha:ED X B a ga) (hb:ED X B b gb):ED X B (.BinOp a .Pow b pos) (op2 powI ga gb):=fM' qV' (od_I (C:=CPow) λi j h=>(of_decide_eq_true h:_/\_/\_)) ha hb
def CDivW (i j:Int):Prop:=0 < j/\j < 2 ^ 200
theorem ow':OpR X (binaryOp .FloorDiv) (rI CDivW λi j=>.int (i / j)):=opI λi j _ _ _ _ _ hc q=>by
 have h1:(0:Int) < j:=hc.1
 have h2:j.natAbs < 2 ^ 200:=by
  have:=hc.2
  omega
 have h4:j.natAbs.log2 < 9000:=by
  have h5:j.natAbs.log2 < 200:=(Nat.log2_lt (by omega)).mpr h2
  omega
 refine floordiv_int (by omega) ?_ (.inl (PyProof.noPylong_of_log2 h4))
 rw [Int.fdiv_eq_ediv_of_nonneg _ (Int.le_of_lt h1)]
 exact q
theorem ri' (ha:ED X B a ga) (hb:ED X B b gb):ED X B (.BinOp a .FloorDiv b pos) (op2 divI ga gb):=fM' ow' (od_I (C:=CDivW) λi j h=>(of_decide_eq_true h:_/\_)) ha hb
theorem i3' (ha:ED X B a ga) (hb:ED X B b gb):TD X B (.Compare a [.Lt] [b] pos) (tst (op2 ltI ga gb)):=cZ' gz' cI' ha hb
theorem lQ' (ha:ED X B a ga) (hb:ED X B b gb):TD X B (.Compare a [.Gt] [b] pos) (tst (op2 gtI ga gb)):=cZ' r4' cI' ha hb
theorem lR' (ha:ED X B a ga) (hb:ED X B b gb):TD X B (.Compare a [.GtE] [b] pos) (tst (op2 geI ga gb)):=cZ' r5' cI' ha hb
theorem pR' (ha:ED X B a ga) (hb:ED X B b gb) (hc:ED X B c gc) (hm:lastMarks [.LtE,.Lt] [b,c]=false:=by with_unfolding_all rfl):ED X B (.Compare a [.LtE,.Lt] [b,c] pos) (chn leI ltI ga gb gc):=q8' gA' cI' gz' cI' ha hb hc hm
theorem pS' (ha:ED X B a ga) (hb:ED X B b gb) (hc:ED X B c gc) (hm:lastMarks [.LtE,.LtE] [b,c]=false:=by with_unfolding_all rfl):TD X B (.Compare a [.LtE,.LtE] [b,c] pos) (tst (chn leI leI ga gb gc)):=mS' gA' cI' gA' cI' ha hb hc hm
theorem pT' (ha:ED X B a ga) (hb:ED X B b gb) (hc:ED X B c gc) (hm:lastMarks [.LtE,.Lt] [b,c]=false:=by with_unfolding_all rfl):TD X B (.Compare a [.LtE,.Lt] [b,c] pos) (tst (chn leI ltI ga gb gc)):=mS' gA' cI' gz' cI' ha hb hc hm
def eqF (neg:Bool) (a b:D):Option D:=if dep a<=100\/dep b<=100 then some (.bl (if neg then !deq a b else deq a b)) else none
theorem lS' {K:PySem.W.Frag}{neg:Bool}:OpD K (rEqD K neg) (eqF neg):=λa b d e B G I H σ Γ x y Q r hx hy k=>by
 obtain ⟨h1,rfl⟩:=aw' e
 exact ⟨a,b,hx.mono r.iH,hy.mono r.iH,h1,k.now r (Is.bl _)⟩
variable {kr:Nat}
theorem hu100 {A:Around}{k:Nat} (hr:Room k A):A.units+100 < cLine:=by have:=hr.un;omega
theorem em' (hr:Room kr X.A) (ha:ED X B a ga) (hb:ED X B b gb):ED X B (.Compare a [.Eq] [b] pos) (op2 (eqF false) ga gb):=q7' (m2' (hu100 hr)) lS' ha hb
theorem b9' (hr:Room kr X.A) (ha:ED X B a ga) (hb:ED X B b gb):TD X B (.Compare a [.Eq] [b] pos) (tst (op2 (eqF false) ga gb)):=cZ' (m2' (hu100 hr)) lS' ha hb
theorem c1' (hr:Room kr X.A) (ha:ED X B a ga) (hb:ED X B b gb):TD X B (.Compare a [.NotEq] [b] pos) (tst (op2 (eqF true) ga gb)):=cZ' (m3' (hu100 hr)) lS' ha hb
def inF (neg:Bool) (a b:D):Option D:=match seqI b with
 | some ds=>if dep a<=99 then some (.bl (if neg then !ds.any (λd=>deq d a) else ds.any λd=>deq d a)) else none
 | none=>none
theorem se' {K:PySem.W.Frag}{neg:Bool}:OpD K (rInD K neg) (inF neg):=λa b d e B G I H σ Γ x y Q r hx hy k=>by
 unfold inF at e
 cases b with
 | lst ds =>
  obtain ⟨h1,rfl⟩:=aw' e
  exact ⟨a,ds,hx.mono r.iH,.inl (hy.mono r.iH),h1,k.now r (Is.bl _)⟩
 | tup ds =>
  obtain ⟨h1,rfl⟩:=aw' e
  exact ⟨a,ds,hx.mono r.iH,.inr (hy.mono r.iH),h1,k.now r (Is.bl _)⟩
 | _=>cases e
theorem sf' (hr:Room kr X.A) (ha:ED X B a ga) (hb:ED X B b gb) (hm:behindInMarks .In b=false:=by rfl):TD X B (.Compare a [.In] [b] pos) (tst (op2 (inF false) ga gb)):=cZ' (rg' (hu100 hr)) se' ha hb hm
def rCatTT (K:PySem.W.Frag):R2:=λx y H Q=>∃ a b xs ys,x=.ref a/\y=.ref b/\SqT K H a xs/\SqT K H b ys/\xs.length+ys.length<=sizeLine ∧
 (xs=[]->Q (.ref b) H)/\(xs≠[]->ys=[]->Q (.ref a) H)/\(xs≠[]->ys≠[]->∀ p,H p=none->Q (.ref p) (upd H p (.tup (xs++ys))))
theorem ox':OpR X (binaryOp .Add) (rCatTT X.K):=by
 intro pins s σ H x y v u Q I rx ry h
 obtain ⟨a,b,xs,ys,rfl,rfl,ha,hb,hz,q0,q1,q2⟩:=h
 cases rx
 cases ry
 obtain ⟨its,r1,p1,_⟩:=I.tuple ha
 obtain ⟨its2,r2,p2,_⟩:=I.tuple hb
 by_cases hx:xs=[]
 ·subst hx
  cases r1
  obtain ⟨⟨cls,dd,data,sl⟩,ho,hc,n,hd⟩:=id p1
  obtain ⟨⟨cls2,dd2,data2,sl2⟩,ho2,hc2,n2,hd2⟩:=id p2
  simp only at hc hd hc2 hd2
  subst hc hd hc2 hd2
  exact concat_meets ⟨_,ho,rfl⟩ ⟨_,ho2,rfl⟩ noFill_tuple_add seq_tuple_add PySem.F.slot_tuple_add PySem.F.entry_tuple_add (PySem.F.args_tuple_add_2 _ _)
   (tuple_addW0 a b _ its2.toArray n n2 dd dd2 sl sl2 (by simp)) ⟨ho,ho2,⟨.ref b,H,I,rfl,q0 rfl⟩⟩
 ·exact pD' pins s σ H (.ref a) (.ref b) _ _ Q I rfl rfl ⟨a,b,xs,ys,rfl,rfl,ha,hb,hx,hz,q1 hx,q2 hx⟩
def addF (a b:D):Option D:=match a,b with
 | .int i,.int j=>some (.int (i+j))
 | .tup xs,.tup ys=>if xs.length+ys.length<=lim then some (.tup (xs++ys)) else none
 | .str x,.str y=>if x.length+y.length<=lim then some (.str (x++y)) else none
 | _,_=>none
theorem IsA.ne_nil {K:PySem.W.Frag}{I:Hp}{ds:List D}{xs:List V} (h:IsA K I ds xs):xs=[]↔ds=[]:=by
 have:=h.length
 constructor
 ·intro e;subst e;exact List.length_eq_zero_iff.mp this
 ·intro e;subst e;exact List.length_eq_zero_iff.mp this.symm
theorem ax' (ha:ED X B a ga) (hb:ED X B b gb):ED X B (.BinOp a .Add b pos) (op2 addF ga gb):=fM' ((qR'.or ox').or lG') (λa b d e B G I H σ Γ x y Q r hx hy k=>by
 unfold addF at e
 split at e
 ·cases e
  exact .inl (.inl ⟨_,_,am' hx,am' hy,k.now r (Is.int _)⟩)
 ·obtain ⟨hl,rfl⟩:=aw' e
  obtain ⟨p,xs,rfl,h1,h2⟩:=as' hx
  obtain ⟨q,ys,rfl,h3,h4⟩:=as' hy
  refine .inl (.inr ⟨p,q,xs,ys,rfl,rfl,Same.sqT r.iH h1,Same.sqT r.iH h3,by rw [← h2.length,← h4.length];exact dz' hl,λz=>?_,λ_ z=>?_,λ_ _ p' hp=>k.tup r hp (IsA.append h2 h4)⟩)
  ·have:=h2.ne_nil.mp z
   subst this
   exact k.now r (Is.tup h3 h4)
  ·have:=h4.ne_nil.mp z
   subst this
   rw [List.append_nil] at k
   exact k.now r (Is.tup h1 h2)
 ·obtain ⟨hl,rfl⟩:=aw' e
  exact .inr ⟨_,_,bA' hx,bA' hy,dz' hl,k.now r (Is.str _)⟩
 ·cases e) ha hb
def rCatR (K:PySem.W.Frag):R2:=λx y H Q=>∃ l b xs zs,x=.ref l/\y=.ref b/\RdK K H l xs/\RdK K H b zs/\xs.length+zs.length<=sizeLine/\∀ p,H p=none->Q (.ref p) (upd H p (.lst (xs++zs)))
theorem pU':OpR X (binaryOp .Add) (rCatR X.K):=by
 intro pins s σ H x y v u Q I rx ry h
 obtain ⟨l,b,xs,zs,rfl,rfl,hH,hB,hz,q⟩:=h
 cases rx
 cases ry
 obtain ⟨z,its,n,r,hl,e⟩:=k5' I hH
 obtain ⟨z2,its2,n2,r2,hl2,e2⟩:=k5' I hB
 refine PySem.P.add_list e e2 ?_ (by rw [List.size_toArray,List.size_toArray];omega)
 have ea:its.toArray++its2.toArray=(its++its2).toArray:=by simp
 rw [ea]
 exact ⟨.ref _,_,I.lnew (t':=s.toks) (r.append r2) (by rw [List.length_append];omega),rfl,q _ I.fresh⟩
def catF (a b:D):Option (List D):=match a,b with
 | .lst xs,.lst ys=>if xs.length+ys.length<=lim then some (xs++ys) else none
 | _,_=>none
theorem c2' (ha:ED X B a ga) (hb:ED X B b gb):EO X B (.BinOp a .Add b pos) (op2 catF ga gb):=r9' pU' (λa b d e B G I H σ Γ x y Q r hx hy k=>by
 unfold catF at e
 split at e
 ·obtain ⟨hl,rfl⟩:=aw' e
  obtain ⟨p,xs,rfl,h1,h2⟩:=aB' hx
  obtain ⟨q,ys,rfl,h3,h4⟩:=aB' hy
  exact ⟨p,q,xs,ys,rfl,rfl,Same.rdK r.iH h1,Same.rdK r.iH h3,by rw [← h2.length,← h4.length];exact dz' hl,λp' hp=>k.new r hp (IsA.append h2 h4)⟩
 ·cases e) ha hb
theorem IsA.at {K:PySem.W.Frag}{I:Hp}{ds:List D}{xs:List V}{i:Int}{d:D} (h:IsA K I ds xs) (e:atI ds i=some d):∃ x,atI xs i=some x/\Is K I d x:=by
 unfold atI at e ⊢
 rw [← h.length]
 cases hj:ixN ds.length i with
 | none=>rw [hj] at e;cases e
 | some j =>
  rw [hj] at e
  exact h.get e
def ixF (a b:D):Option D:=match seqI a,asI b with
 | some ds,some i=>atI ds i
 | _,_=>none
theorem k7' {a b d:D} (h:ixF a b=some d):∃ ds i,(a=.lst ds\/a=.tup ds)/\b=.int i/\atI ds i=some d:=by
 unfold ixF at h
 cases a<;>cases b<;>simp [seqI,asI] at h
 ·exact ⟨_,_,.inr rfl,rfl,h⟩
 ·exact ⟨_,_,.inl rfl,rfl,h⟩
theorem az' (ha:ED X B a ga) (hb:ED X B b gb) (hs:PlainIx b:=by exact λ_ _=>rfl):ED X B (.Subscript a b pos) (op2 ixF ga gb):=sa' (k3'.or q4') (λa b d e B G I H σ Γ x y Q r hx hy k=>by
 obtain ⟨ds,i,h1,rfl,h2⟩:=k7' e
 rcases h1 with rfl | rfl
 ·obtain ⟨p,xs,rfl,h3,h4⟩:=aB' hx
  obtain ⟨v,e5,e6⟩:=h4.at h2
  exact .inl ⟨p,xs,i,v,rfl,am' hy,(Same.rdK r.iH h3).sq,e5,k.now r e6⟩
 ·obtain ⟨p,xs,rfl,h3,h4⟩:=as' hx
  obtain ⟨v,e5,e6⟩:=h4.at h2
  exact .inr ⟨p,xs,i,v,rfl,am' hy,Same.sqT r.iH h3,e5,k.now r e6⟩) ha hb hs
def look (i:Nat):M D:=λΓ=>match Γ[i]? with
 | some (some (.own ds))=>some (.lst ds,Γ)
 | some (some (.bor ds))=>some (.lst ds,Γ)
 | _=>none
theorem f9' {K:PySem.W.Frag}{G I H:Hp}{σ:L2.St}{Γ Γ':Gm}{i:Nat}{d:D} (h:look i Γ=some (d,Γ')) (r:Rep K B G I H σ Γ):Γ'=Γ/\∃ p xs ds,d=.lst ds/\σ[i]?=some (some (.ref p))/\H p=some (.lst xs)/\IsA K I ds xs:=by
 unfold look at h
 cases e:Γ[i]? with
 | none=>rw [e] at h;cases h
 | some o =>
  cases o with
  | none=>rw [e] at h;cases h
  | some q =>
   rw [e] at h
   obtain ⟨v,h1,h2⟩:=r.slot i q e
   cases q with
   | val _=>cases h
   | own ds=>cases h;obtain ⟨p,xs,rfl,g1,_,_,g4⟩:=h2;exact ⟨rfl,p,xs,ds,rfl,h1,g1,g4⟩
   | fro ds=>cases h
   | dic ds=>cases h
   | bor ds=>cases h;obtain ⟨p,xs,rfl,g1,_,_,g4⟩:=h2;exact ⟨rfl,p,xs,ds,rfl,h1,g1,g4⟩
def atN (i:Nat) (g:M D):M D:=mutS i (bnd g λn=>bnd (look i) λl=>lft (ixF l n))
theorem cF' {i:Nat}{x:Str}{p1:Pos} (hv:PE X (.Name x p1) (tVar i)) (hb:ED X B b gb) (hs:PlainIx b:=by exact λ_ _=>rfl):ED X B (.Subscript (.Name x p1) b pos) (atN i gb):=PE.imp (pd' k3' hv hb hs) λσ H Q q=>by
 obtain ⟨G,I,Γ,d,Γ',r,e1,k⟩:=q
 obtain ⟨hm,e1⟩:=cJ' e1
 obtain ⟨n,Γ1,e2,e3⟩:=ae' e1
 obtain ⟨l,Γ2,e4,e5⟩:=ae' e3
 obtain ⟨e6,rfl⟩:=ao' e5
 obtain ⟨p,xs,h1,h2⟩:=cQ' hm r
 refine ⟨_,h1,G,I,Γ,n,Γ1,r,e2,λv H1 I1 r1 g1 hn=>?_⟩
 obtain ⟨rfl,p',xs',ds,rfl,f1,f2,f3⟩:=f9' e4 r1
 have hp:p'=p:=by rw [h1] at f1;cases f1;rfl
 subst hp
 obtain ⟨ds',j,g2,rfl,g3⟩:=k7' e6
 rcases g2 with g2 | g2
 ·cases g2
  obtain ⟨y,e7,e8⟩:=f3.at g3
  exact ⟨p',xs',j,y,rfl,am' hn,SqL.of f2,e7,(k.after g1).now r1 e8⟩
 ·cases g2
def lenF (ds:List D):Option D:=match ds with
 | [.lst xs]=>some (.int xs.length)
 | [.tup xs]=>some (.int xs.length)
 | _=>none
theorem oy' {ds:List D}{d:D} (h:lenF ds=some d):∃ xs,(ds=[.lst xs]\/ds=[.tup xs])/\d=.int xs.length:=by
 unfold lenF at h
 split at h
 ·cases h;exact ⟨_,.inl rfl,rfl⟩
 ·cases h;exact ⟨_,.inr rfl,rfl⟩
 ·cases h
theorem bn' {p:Pos}{t:M (List D)} (hg:Gl X "len") (hm:X.mg "len"=none) (ha:AD X B [e] t) (he:starEach [e] X.env=(false,eval e X.env)::starEach [] X.env:=by rfl) (hpl:(backTo pos (starEach [] X.env)).any (·.1)=false:=by rfl) :
  ED X B (.Call (.Name "len" p) [e] [] pos) (fn1 lenF t):=d8' jc' (λds d e B G I H σ Γ xs Q r h k=>by
 obtain ⟨ys,h1,rfl⟩:=oy' e
 rcases h1 with rfl | rfl
 ·obtain ⟨x,rfl,hx⟩:=h.one
  obtain ⟨q,zs,rfl,h3,h4⟩:=aB' hx
  exact ⟨q,zs,rfl,.inl ((Same.rdK r.iH h3).sq),by rw [h4.length] at k;exact k.now r (Is.int _)⟩
 ·obtain ⟨x,rfl,hx⟩:=h.one
  obtain ⟨q,zs,rfl,h3,h4⟩:=as' hx
  exact ⟨q,zs,rfl,.inr (Same.sqT r.iH h3),by rw [h4.length] at k;exact k.now r (Is.int _)⟩) hg hm PySem.boot_len ha (by decide) (by decide) he hpl
def cmpN (neg:Bool) (i:Nat) (g:M D):M D:=mutS i (bnd g λd=>bnd (look i) λl=>lft (eqF neg l d))
theorem rj' {K:PySem.W.Frag}{neg:Bool}{i:Nat}:∀ σ H Q,tD K B (cmpN neg i gb) σ H Q->tOp (rEqD K neg) (tVar i) (tD K B gb) σ H Q:=λσ H Q q=>by
 obtain ⟨G,I,Γ,d,Γ',r,e1,k⟩:=q
 obtain ⟨hm,e1⟩:=cJ' e1
 obtain ⟨n,Γ1,e2,e3⟩:=ae' e1
 obtain ⟨l,Γ2,e4,e5⟩:=ae' e3
 obtain ⟨e6,rfl⟩:=ao' e5
 obtain ⟨p,xs,h1,h2⟩:=cQ' hm r
 refine ⟨_,h1,G,I,Γ,n,Γ1,r,e2,λv H1 I1 r1 g1 hn=>?_⟩
 obtain ⟨rfl,p',xs',ds,rfl,f1,f2,f3⟩:=f9' e4 r1
 have hp:p'=p:=by rw [h1] at f1;cases f1;rfl
 subst hp
 obtain ⟨hd,rfl⟩:=aw' e6
 exact ⟨.lst ds,n,Is.lst (RdK.of f2) (f3.mono r1.iH),hn.mono r1.iH,hd,(k.after g1).now r1 (Is.bl _)⟩
theorem rl' {i:Nat}{x:Str}{p1:Pos} (hr:Room kr X.A) (hv:PE X (.Name x p1) (tVar i)) (hb:ED X B b gb):TD X B (.Compare (.Name x p1) [.NotEq] [b] pos) (tst (cmpN true i gb)):=PT.imp (kZ' (m3' (hu100 hr)) hv hb (nomark _)) (i1' rj')
def partD (e:Option Expr) (X:Cx) (B:BB) (g:M (Option Int)):Prop:=PO X e (λσ H Q=>∃ G I Γ o Γ',Rep X.K B G I H σ Γ/\g Γ=some (o,Γ')/\∀ H' I',Rep X.K B G I' H' σ Γ'->Grow G I I'->Q o H')
theorem aH':partD none X B (ret none):=λpins s σ H Q I h=>pB' pins s σ H Q I (by
 obtain ⟨G,I,Γ,o,Γ',r,e1,k⟩:=h
 cases e1
 exact k _ _ r (Grow.refl _ _))
def prt (g:M D):M (Option Int):=bnd g λd=>bnd (lft (asI d)) λi=>ret (some i)
theorem aD' (ha:ED X B a ga):partD (some a) X B (prt ga):=λpins s σ H Q I h=>pC' ha pins s σ H Q I (by
 obtain ⟨G,I,Γ,o,Γ',r,e1,k⟩:=h
 obtain ⟨d,Γ1,e2,e3⟩:=ae' e1
 obtain ⟨i,Γ2,e4,e5⟩:=ae' e3
 cases e5
 obtain ⟨e6,rfl⟩:=ao' e4
 have:=k6' e6
 subst this
 exact ⟨G,I,Γ,_,_,r,e2,λv H1 I1 r1 g1 hv=>⟨i,am' hv,k _ _ r1 g1⟩⟩)
def cutD (ds:List D) (lo hi:Option Int):List D:=(ds.drop (HT.sIx ds.length 0 lo)).take (HT.sIx ds.length ds.length hi - HT.sIx ds.length 0 lo)
theorem IsA.cut {K:PySem.W.Frag}{I:Hp}{ds:List D}{xs:List V} (h:IsA K I ds xs) (lo hi:Option Int):IsA K I (cutD ds lo hi) (cutV xs lo hi):=by
 unfold cutD cutV
 rw [← h.length]
 exact (h.drop _).take _
def slF (d:D) (lo hi:Option Int):Option D:=match d with
 | .lst ds=>some (.lst (cutD ds lo hi))
 | .tup ds=>if HT.sIx ds.length 0 lo=0/\HT.sIx ds.length ds.length hi=ds.length then none else some (.tup (cutD ds lo hi))
 | _=>none
def sl3 {α:Type} (F:D->Option Int->Option Int->Option α) (g:M D) (gl gh:M (Option Int)):M α:=bnd g λd=>bnd gl λl=>bnd gh λh=>lft (F d l h)
theorem bO' {lo hi:Option Expr}{p2:Pos}{gl gh:M (Option Int)} (ha:ED X B a ga) (hl:partD lo X B gl) (hh:partD hi X B gh):ED X B (.Subscript a (.Slice lo hi none p2) pos) (sl3 slF ga gl gh):=PE.imp (ja' (pE'.or q3') ha hl hh) λσ H Q q=>by
 obtain ⟨G,I,Γ,d,Γ',r,e1,k⟩:=q
 obtain ⟨c,Γ1,e2,e3⟩:=ae' e1
 obtain ⟨l,Γ2,e4,e5⟩:=ae' e3
 obtain ⟨h,Γ3,e6,e7⟩:=ae' e5
 obtain ⟨e8,rfl⟩:=ao' e7
 refine ⟨G,I,Γ,c,Γ1,r,e2,λv H1 I1 r1 g1 hv=>⟨G,I1,Γ1,l,Γ2,r1,e4,λH2 I2 r2 g2=>⟨G,I2,Γ2,h,_,r2,e6,λH3 I3 r3 g3=>?_⟩⟩⟩
 have gg:=g1.trans (g2.trans g3)
 have hv3:=hv.mono (g2.trans g3).up
 cases c with
 | lst ds =>
  cases e8
  obtain ⟨p,xs,rfl,h3,h4⟩:=aB' hv3
  refine .inl ⟨p,xs,rfl,(Same.rdK r3.iH h3).sq,λp' hp=>?_⟩
  exact (k.after gg) _ _ _ (r3.alloc hp _) (r3.growAlloc hp _) (Is.lst (RdK.of av') ((h4.cut l h).mono (aS' (r3.iFree hp) _)))
 | tup ds =>
  unfold slF at e8
  by_cases hw:HT.sIx ds.length 0 l=0/\HT.sIx ds.length ds.length h=ds.length
  ·simp only [hw,and_self,if_true] at e8;cases e8
  ·simp only [if_neg hw] at e8;cases e8
   obtain ⟨p,xs,rfl,h3,h4⟩:=as' hv3
   exact .inr ⟨p,xs,rfl,Same.sqT r3.iH h3,by rw [← h4.length];exact hw,λp' hp=>(k.after gg).tup r3 hp (h4.cut l h)⟩
 | _=>cases e8
def minF (ds:List D):Option D:=match ds with
 | [.int i,.int j]=>some (.int (if j < i then j else i))
 | _=>none
def maxF (ds:List D):Option D:=match ds with
 | [.int i,.int j]=>some (.int (if j > i then j else i))
 | _=>none
theorem m4' {p:Pos}{t:M (List D)} (hc:X.calm=true) (hg:Gl X "min") (hm:X.mg "min"=none) (ha:AD X B (e::es) t) (he:starEach (e::es) X.env=(false,eval e X.env)::starEach es X.env:=by rfl) (hpl:(backTo pos (starEach es X.env)).any (·.1)=false:=by rfl) :
  ED X B (.Call (.Name "min" p) (e::es) [] pos) (fn1 minF t):=d8' (mJ' hc) (λds d e B G I H σ Γ xs Q r h k=>by
 unfold minF at e
 split at e
 ·cases e
  obtain ⟨x,y,rfl,hx,hy⟩:=h.two
  exact ⟨_,_,by rw [am' hx,am' hy],k.now r (Is.int _)⟩
 ·cases e) hg hm boot_min ha (by decide) (by decide) he hpl
theorem m5' {p:Pos}{t:M (List D)} (hc:X.calm=true) (hg:Gl X "max") (hm:X.mg "max"=none) (ha:AD X B (e::es) t) (he:starEach (e::es) X.env=(false,eval e X.env)::starEach es X.env:=by rfl) (hpl:(backTo pos (starEach es X.env)).any (·.1)=false:=by rfl) :
  ED X B (.Call (.Name "max" p) (e::es) [] pos) (fn1 maxF t):=d8' (mI' hc) (λds d e B G I H σ Γ xs Q r h k=>by
 unfold maxF at e
 split at e
 ·cases e
  obtain ⟨x,y,rfl,hx,hy⟩:=h.two
  exact ⟨_,_,by rw [am' hx,am' hy],k.now r (Is.int _)⟩
 ·cases e) hg hm boot_max ha (by decide) (by decide) he hpl
def tupF (ds:List D):Option D:=match ds with
 | [.lst xs]=>some (.tup xs)
 | [.tup xs]=>some (.tup xs)
 | _=>none
def lstF (ds:List D):Option (List D):=match ds with
 | [.lst xs]=>some xs
 | [.tup xs]=>some xs
 | _=>none
theorem eR' {p:Pos}{t:M (List D)} (hg:Gl X "tuple") (hm:X.mg "tuple"=none) (ha:AD X B [e] t) (he:starEach [e] X.env=(false,eval e X.env)::starEach [] X.env:=by rfl) (hpl:(backTo pos (starEach [] X.env)).any (·.1)=false:=by rfl) :
  ED X B (.Call (.Name "tuple" p) [e] [] pos) (fn1 tupF t):=q9' iN' (λds d e B G I H σ Γ xs Q r h k=>by
 unfold tupF at e
 split at e
 ·cases e
  obtain ⟨x,rfl,hx⟩:=h.one
  obtain ⟨q,zs,rfl,h3,h4⟩:=aB' hx
  exact ⟨q,zs,rfl,.inl ⟨(Same.rdK r.iH h3).sq,λp' hp=>k.tup r hp h4⟩⟩
 ·cases e
  obtain ⟨x,rfl,hx⟩:=h.one
  obtain ⟨q,zs,rfl,h3,h4⟩:=as' hx
  exact ⟨q,zs,rfl,.inr ⟨Same.sqT r.iH h3,k.now r (Is.tup h3 h4)⟩⟩
 ·cases e) hg hm boot_tuple ha (by decide) (by decide) he hpl
theorem eH' {p:Pos}{t:M (List D)} (hg:Gl X "list") (hm:X.mg "list"=none) (ha:AD X B [e] t) (he:starEach [e] X.env=(false,eval e X.env)::starEach [] X.env:=by rfl) (hpl:(backTo pos (starEach [] X.env)).any (·.1)=false:=by rfl) :
  EO X B (.Call (.Name "list" p) [e] [] pos) (fn1 lstF t):=ra' jd' (λds d e B G I H σ Γ xs Q r h k=>by
 unfold lstF at e
 split at e
 ·cases e
  obtain ⟨x,rfl,hx⟩:=h.one
  obtain ⟨q,zs,rfl,h3,h4⟩:=aB' hx
  exact ⟨q,zs,rfl,.inl ((Same.rdK r.iH h3).sq),λp' hp=>k.new r hp h4⟩
 ·cases e
  obtain ⟨x,rfl,hx⟩:=h.one
  obtain ⟨q,zs,rfl,h3,h4⟩:=as' hx
  exact ⟨q,zs,rfl,.inr (Same.sqT r.iH h3),λp' hp=>k.new r hp h4⟩
 ·cases e) hg hm boot_list ha (by decide) (by decide) he hpl
def isN (d:D):Bool:=match d with
 | .non=>true
 | _=>false
def isNF (neg:Bool) (a b:D):Option D:=match b with
 | .non=>some (.bl (if neg then !isN a else isN a))
 | _=>none
theorem m6' {K:PySem.W.Frag}{I:Hp}{a:D}{x:V} (h:Is K I a x):decide (x=V.non)=isN a:=by
 cases a with
 | non=>rw [bB' h];rfl
 | bl _=>rw [a3' h];rfl
 | int _=>rw [am' h];rfl
 | str _=>rw [bA' h];rfl
 | tup _=>obtain ⟨_,_,rfl,_⟩:=as' h;rfl
 | lst _=>obtain ⟨_,_,rfl,_⟩:=aB' h;rfl
theorem rm' {K:PySem.W.Frag}:OpD K (λx y H Q=>y=.non/\Q (.bl (decide (x=.non))) H) (isNF false):=λa b d e B G I H σ Γ x y Q r hx hy k=>by
 unfold isNF at e
 split at e
 ·cases e;exact ⟨bB' hy,by rw [m6' hx];exact k.now r (Is.bl _)⟩
 ·cases e
theorem pV' {K:PySem.W.Frag}:OpD K (λx y H Q=>y=.non/\Q (.bl (!decide (x=.non))) H) (isNF true):=λa b d e B G I H σ Γ x y Q r hx hy k=>by
 unfold isNF at e
 split at e
 ·cases e;exact ⟨bB' hy,by rw [m6' hx];exact k.now r (Is.bl _)⟩
 ·cases e
theorem rn' (ha:ED X B a ga) (hb:ED X B b gb):TD X B (.Compare a [.Is] [b] pos) (tst (op2 (isNF false) ga gb)):=cZ' qX' rm' ha hb
theorem k8' (ha:ED X B a ga) (hb:ED X B b gb):TD X B (.Compare a [.IsNot] [b] pos) (tst (op2 (isNF true) ga gb)):=cZ' pz' pV' ha hb
def isBF (neg:Bool) (a b:D):Option D:=match a,b with
 | .bl c,.bl d=>some (.bl (if neg then c != d else c == d))
 | _,_=>none
theorem oz':OpR X (compareOp .IsNot) (λx y H Q=>∃ c d,x=.bl c/\y=.bl d/\Q (.bl (c != d)) H):=by
 intro pins s σ H x y v u Q I rx ry h
 obtain ⟨c,d,rfl,rfl,q⟩:=h
 cases rx;cases ry
 exact isnot_bool ⟨.bl _,H,I,rfl,q⟩
theorem oA' {K:PySem.W.Frag}:OpD K (λx y H Q=>∃ c d,x=.bl c/\y=.bl d/\Q (.bl (c != d)) H) (isBF true):=λa b d e B G I H σ Γ x y Q r hx hy k=>by
 unfold isBF at e
 split at e
 ·cases e;exact ⟨_,_,a3' hx,a3' hy,k.now r (Is.bl _)⟩
 ·cases e
theorem oB' (ha:ED X B a ga) (hb:ED X B b gb):TD X B (.Compare a [.IsNot] [b] pos) (tst (op2 (isBF true) ga gb)):=cZ' oz' oA' ha hb
end
end DL
namespace DL
open PySem PySem.Spec PyProof.Rows L2
structure Kd where
 it:Heap->Addr->Addr->Nat->Prop
 sq:Heap->Addr->Array Value->Prop
 nm:String
structure KdOk (k:Kd):Prop where
 itAt:∀ {h h':Heap}{i l:Addr}{n:Nat},k.it h i l n->(∀ o,h.get? i=some o->h'.get? i=some o)->k.it h' i l n
 sqAt:∀ {h h':Heap}{l:Addr}{xs:Array Value},k.sq h l xs->(∀ o,h.get? l=some o->h'.get? l=some o)->k.sq h' l xs
 itLt:∀ {h:Heap}{i l:Addr}{n:Nat},k.it h i l n->i < h.objs.size
 sqLt:∀ {h:Heap}{l:Addr}{xs:Array Value},k.sq h l xs->l < h.objs.size
 itObj:∀ {h:Heap}{i l:Addr}{n:Nat},k.it h i l n->∃ o,h.get? i=some o/\∀ v,o.data≠.cell v
 iter:∀ {prog:Program}{w:World}{A:Around}{E:Value->Shared->Prop}{s:Shared}{l:Addr}{xs:Array Value}{Q:Value->Shared->Prop},k.sq s.heap l xs →
  Q (.ref s.heap.objs.size) { s with heap:=s.heap.push { cls:=.type k.nm,data:=.fields #[.ref l,.int 0 0] } }->wpAny (model prog w) A (pyIter (.ref l)) Q E s
 new:∀ {h:Heap}{l:Addr},k.it (h.push { cls:=.type k.nm,data:=.fields #[.ref l,.int 0 0] }) h.objs.size l 0
 item:∀ {prog:Program}{w:World}{A:Around}{E:Value->Shared->Prop}{s:Shared}{i l:Addr}{n:Nat}{xs:Array Value}{x:Value}{Q:Value->Shared->Prop},k.it s.heap i l n->k.sq s.heap l xs->xs[n]?=some x →
  (∀ h',k.it h' i l (n+1)->Heap.SameBut i s.heap h'->Q x { s with heap:=h' })->wpAny (model prog w) A (Builtin.SmallTypes.nextOf (.ref i)) Q E s
 stop:∀ {prog:Program}{w:World}{A:Around}{E:Value->Shared->Prop}{s:Shared}{i l:Addr}{n:Nat}{xs:Array Value}{Q:Value->Shared->Prop},A.handled=none->k.it s.heap i l n->k.sq s.heap l xs->xs[n]?=none →
  (∀ h' e,Heap.ExtBut i s.heap h'->(∃ o,h'.get? e=some o/\o.cls=.type "StopIteration")->E (.ref e) { s with heap:=h' })->wpAny (model prog w) A (Builtin.SmallTypes.nextOf (.ref i)) Q E s
def kdL:Kd:=⟨λh i l n=>h.IsListIter i l n,λh l xs=>h.IsList l xs, "list_iterator"⟩
def kdT:Kd:=⟨λh i l n=>h.IsTupleIter i l n,λh l xs=>h.IsTuple l xs, "tuple_iterator"⟩
theorem m7':KdOk kdL where
 itAt:=λh k=>h.at k
 sqAt:=λh k=>h.at k
 itLt:=λh=>by obtain ⟨_,e,_⟩:=h;exact Heap.lt_size e
 sqLt:=λh=>by obtain ⟨_,e,_⟩:=h;exact Heap.lt_size e
 itObj:=λh=>by obtain ⟨o,e,_,d⟩:=h;exact ⟨o,e,λv z=>by rw [d] at z;cases z⟩
 iter:=λh q=>wpAny_pyIter_list h q
 new:=⟨_,Heap.get?_push_size _ rfl,rfl,rfl⟩
 item:=λh1 h2 h3 q=>wpAny_nextOf_list_item h1 h2 h3 q
 stop:=λhh h1 h2 h3 q=>wpAny_nextOf_list_end hh h1 h2 h3 q
section
variable {prog:Program}{w:World}{A:Around}{E:Value->Shared->Prop}{s:Shared}
theorem oC' {α:Type}{Q:α->Shared->Prop} (hh:A.handled=none)
  (k:∀ (g:Heap) (x:Addr),(∀ b o,s.heap.get? b=some o->g.get? b=some o)->(∃ o,g.get? x=some o/\o.cls=.type "StopIteration")->E (.ref x) { s with heap:=g }) :
  wpAny (model prog w) A (Builtin.SmallTypes.stopIteration (α:=α)) Q E s:=by
 unfold Builtin.SmallTypes.stopIteration newExc newTuple
 refine wpAny_bind (wpAny_bind (wpAny_newObj_type (wpAny_bind (wpAny_of_eq (a:=Value.none) (by first | rfl | (simp only [firstArgMember];rfl)) (wpAny_newObj_type ?_ (by size_fits)))) (by size_fits)))
 unfold raiseNew
 refine wpAny_bind (wpAny_handled ?_)
 rw [hh]
 exact wpAny_bind (wpAny_pure (wpAny_throw (k _ _ (λb o e=>Heap.get?_push_of_some _ (Heap.get?_push_of_some _ e)) ⟨_,Heap.get?_push_size _ rfl,rfl⟩)))
theorem jl' {at' tp:Addr}{i:Nat}{cells:Array Value}{Q:Value->Shared->Prop} (hi:s.heap.IsTupleIter at' tp i) (hT:s.heap.IsTuple tp cells)
  (one:∀ v,cells[i]?=some v->∀ g:Heap,g.IsTupleIter at' tp (i+1)->Heap.SameBut at' s.heap g->Q v { s with heap:=g })
  (non:cells[i]?=none->A.handled=none/\∀ (g:Heap) (x:Addr),Heap.ExtBut at' s.heap g->(∃ o,g.get? x=some o/\o.cls=.type "StopIteration")->E (.ref x) { s with heap:=g }) :
  wpAny (model prog w) A (Builtin.SmallTypes.nextOf (.ref at')) Q E s:=by
 have ty:=hi.typeIs
 obtain ⟨oi,gi,ci,di⟩:=hi
 obtain ⟨ot,gt,ct,nt,dt⟩:=hT
 unfold Builtin.SmallTypes.nextOf
 refine wpAny_bind (wpAny_callSpecial?_slot (name:=Str.ofString "__next__") ty F.slot_tuple_iterator_next (wpAny_call_entry F.slot_tuple_iterator_next ty F.entry_tuple_iterator_next ?_ (F.args_tuple_iterator_next_1 _)))
 refine wpAny_bind (wpAny_of_eq (a:=(Value.ref at',[])) rfl ?_)
 refine wpAny_bind (wpAny_field (i:=0) gi di (x:=.ref tp) rfl (wpAny_ite_split (λno=>absurd no Bool.false_ne_true) λ_=>?_))
 refine wpAny_bind (wpAny_field (i:=1) gi di (x:=.int i 0) rfl (wpAny_bind (wpAny_seqItems gt dt ?_)))
 dsimp only
 rw [Int.toNat_natCast]
 cases hv:cells[i]? with
 | some v =>
  refine wpAny_bind (wpAny_setField gi di (by simp) (wpAny_pure ⟨v,rfl,wpAny_pure (one v hv _ ?_ (Heap.SameBut.update ..))⟩))
  have low:=Obj.data_mapFields di
  exact ⟨_,Heap.get?_update_self _ gi (Obj.isFreed_of_fields (low _)),(Obj.cls_mapFields ..).trans ci,by rw [low];simp [rawInt]⟩
 | none =>
  obtain ⟨hh,k⟩:=non hv
  refine wpAny_bind (wpAny_rule (wpAny_bind (wpAny_setField gi di (by simp) (oC' hh λg x keep is=>k g x (λb o ne e=>keep b o ((Heap.SameBut.update ..).extBut b o ne e)) is))))
end
theorem m8':KdOk kdT where
 itAt:=λh k=>by obtain ⟨o,e,r⟩:=h;exact ⟨o,k o e,r⟩
 sqAt:=λh k=>by obtain ⟨o,e,r⟩:=h;exact ⟨o,k o e,r⟩
 itLt:=λh=>by obtain ⟨_,e,_⟩:=h;exact Heap.lt_size e
 sqLt:=λh=>by obtain ⟨_,e,_⟩:=h;exact Heap.lt_size e
 itObj:=λh=>by obtain ⟨o,e,_,d⟩:=h;exact ⟨o,e,λv z=>by rw [d] at z;cases z⟩
 iter:=λh q=>wpAny_pyIter_tuple h q
 new:=⟨_,Heap.get?_push_size _ rfl,rfl,rfl⟩
 item:=λh1 h2 h3 q=>jl' h1 h2 (λv e g=>by rw [h3] at e;cases e;exact q g) λe=>by rw [h3] at e;cases e
 stop:=λhh h1 h2 h3 q=>jl' h1 h2 (λv e=>by rw [h3] at e;cases e) λ_=>⟨hh,q⟩
theorem jm' {X:Cx}{pins:List (Addr×Obj)}{σ:L2.St}{H:Hp}{s:Shared}{h':Heap}{t':Nat}{ch:List Addr}{T:Addr}{o:HO} (I:Inv X pins σ H s) (hch:∀ b∈ch,FpOk X pins H b) (k:∀ b u,b∉ch->s.heap.get? b=some u->h'.get? b=some u)
  (hT:s.heap.objs.size<=T) (new:ObjOk X.prog X.w (upd H T o) h' T o):Inv X pins σ (upd H T o) { s with heap:=h',toks:=t' }:=by
 have hf:=I.hok.fresh hT
 have ne:∀ {b u},H b=some u->b≠T:=λ{b u} e=>a6' e hf
 have nch:∀ {b u},H b=some u->b∉ch:=λ{b u} e z=>by have:=(hch b z).1;rw [e] at this;cases this
 refine I.step (g':=s.gens) (d':=s.drawn) (ch:=ch) (λb hb=>⟨(hch b hb).2.2.2.1,(hch b hb).2.1,(hch b hb).2.2.2.2.1,(hch b hb).2.2.2.2.2⟩) (λb u _ _ hc e _=>k b u hc e) (λb u _ _ hc e _=>⟨u.slots,k b u hc e⟩) (λb u hc e n=>?_)
  (λb u hc e=>⟨u,k b u hc e⟩) (λb xs e=>by rw [aj' (ne e)];exact e) (λb u v e=>by rw [aj' (ne e)];exact e) (λb ps e=>⟨#[],by rw [aj' (ne e),e];simp⟩) (λm hm=>?_) (λb u e=>?_) I.bare
 ·have nb:b≠T:=λz=>by have:=Heap.lt_size e;rw [z] at this;exact absurd (Nat.lt_of_lt_of_le this hT) (Nat.lt_irrefl _)
  rw [aj' nb];exact n
 ·obtain ⟨ob,es,ep,ho,r⟩:=hm
  exact ⟨ob,es,ep,k _ ob (λz=>(hch _ z).2.1 rfl) ho,r⟩
 ·by_cases hb:b=T
  ·subst hb;rw [av'] at e;cases e;exact new
  ·rw [aj' hb] at e
   refine (I.hok b u e).stay (λc v hc q=>k c v ?_ q) (λc q=>by rw [aj' (ne q)];exact q) λc xs q=>by rw [aj' (ne q)];exact q
   rcases hc with z | z
   ·rw [z];exact nch e
   ·exact nch z
theorem ir' {X:Cx}{pins:List (Addr×Obj)}{σ:L2.St}{H:Hp}{s:Shared}{h':Heap}{t':Nat}{ch:List Addr} (I:Inv X pins σ H s) (hch:∀ b∈ch,FpOk X pins H b) (k:∀ b u,b∉ch->s.heap.get? b=some u->h'.get? b=some u):Inv X pins σ H { s with heap:=h',toks:=t' }:=by
 have nch:∀ {b u},H b=some u->b∉ch:=λ{b u} e z=>by have:=(hch b z).1;rw [e] at this;cases this
 refine I.step (g':=s.gens) (d':=s.drawn) (ch:=ch) (λb hb=>⟨(hch b hb).2.2.2.1,(hch b hb).2.1,(hch b hb).2.2.2.2.1,(hch b hb).2.2.2.2.2⟩) (λb u _ _ hc e _=>k b u hc e) (λb u _ _ hc e _=>⟨u.slots,k b u hc e⟩) (λb u hc e n=>n)
  (λb u hc e=>⟨u,k b u hc e⟩) (λb xs e=>e) (λb u v e=>e) (λb ps e=>⟨#[],by rw [e];simp⟩) (λm hm=>?_) (λb u e=>?_) I.bare
 ·obtain ⟨ob,es,ep,ho,r⟩:=hm
  exact ⟨ob,es,ep,k _ ob (λz=>(hch _ z).2.1 rfl) ho,r⟩
 ·refine (I.hok b u e).stay (λc v hc q=>k c v ?_ q) (λc q=>q) λc xs q=>q
  rcases hc with z | z
  ·rw [z];exact nch e
  ·exact nch z
section
variable {prog:Program}{w:World}{A:Around}{E:Value->Shared->Prop}{s:Shared}{k:Kd}
theorem jn' (ok:KdOk k){z ta to' p q u v:Addr}{m n:Nat}{xs ys:Array Value}{c0 c1:Value}{Q:PySem.Fin->Shared->Prop} (D:ZipApart z ta to' p q u v) (Z:IsZip s.heap z ta to' .none) (Ta:IsPair s.heap ta (.ref p) (.ref q))
  (To:IsPair s.heap to' c0 c1) (P:k.it s.heap p u m) (P':k.it s.heap q v n) (U:k.sq s.heap u xs) (U':k.sq s.heap v ys)
  (both:∀ x y,xs[m]?=some x->ys[n]?=some y->∀ g:Heap,g.objs.size=s.heap.objs.size+1/\IsPair g s.heap.objs.size x y->IsZip g z ta to' (rawInt s.heap.objs.size)->IsPair g to' x y->k.it g p u (m+1)/\k.it g q v (n+1) →
   (∀ c o,(c≠z/\c≠to'/\c≠p/\c≠q)->s.heap.get? c=some o->g.get? c=some o)->Q (.done (.ret (.ref s.heap.objs.size))) { s with heap:=g })
  (gone:(xs[m]?=none\/ys[n]?=none)->A.handled=none/\∀ (g:Heap) (x:Addr),(∀ c o,(c≠z/\c≠to'/\c≠p/\c≠q)->s.heap.get? c=some o->g.get? c=some o)->(∃ o,g.get? x=some o/\o.cls=.type "StopIteration")->E (.ref x) { s with heap:=g }) :
  wpAny (model prog w) A (Builtin.«zip.__next__» ⟨[.ref z],[]⟩) Q E s:=by
 refine wpAny_bind (wpAny_of_eq (a:=(Value.ref z,[])) rfl (wpAny_bind (wpAny_field (i:=2) Z rfl (x:=.bool false) rfl (wpAny_bind (wpAny_field (i:=3) Z rfl (x:=.ref ta) rfl (wpAny_bind (wpAny_seqItems Ta rfl ?_)))))))
 refine wpAny_bind (m:=Builtin.SmallTypes.ownedTupleIsFree (.ref z)) (wpAny_bind (wpAny_field (i:=0) Z rfl (x:=.none) rfl (wpAny_pure ?_)))
 rw [if_pos rfl]
 refine wpAny_bind (wpAny_rule (wpAny_bind (wpAny_field (i:=4) Z rfl (x:=.ref to') rfl (wpAny_bind (wpAny_setField_rec Z (by simp) λg1 Z1 b1=>?_)))))
 replace Z1:IsZip g1 z ta to' .ellipsis:=Z1
 have off:∀ (g:Heap) (x:Addr),IsZip g z ta to' .ellipsis->(∃ o,g.get? x=some o/\o.cls=.type "StopIteration")->(∀ g':Heap,Heap.SameBut z g g'->(∃ o,g'.get? x=some o/\o.cls=.type "StopIteration")->E (.ref x) { s with heap:=g' }) →
   wpAny (model prog w) A (setField (.ref z) 0 .none) (λ_ s'=>E (.ref x) s') E { s with heap:=g }:=λg x Zg is kk=>by
  obtain ⟨o,e1,e2⟩:=is
  refine wpAny_setField_rec Zg (by simp) λg' _ b'=>kk g' b' ⟨o,b'.extBut _ _ (λsame=>?_) e1,e2⟩
  rw [same,Zg] at e1
  cases e1
  simp at e2
 have f1:∀ c o,c≠z->s.heap.get? c=some o->g1.get? c=some o:=λc o ne e=>b1.extBut _ _ ne e
 refine wpAny_bind ?_
 rw [List.zipIdx_cons,List.zipIdx_cons,List.zipIdx_nil,List.forIn_cons]
 refine wpAny_bind (wpAny_bind (wpAny_onRaise (wpAny_bind (m:=Builtin.SmallTypes.nextOf (.ref p)) ?_)))
 have P1:=ok.itAt P λo e=>f1 _ o D.i1z e
 have U1:=ok.sqAt U λo e=>f1 _ o D.l1z e
 cases hx:xs[m]? with
 | none =>
  obtain ⟨hh,out⟩:=gone (.inl hx)
  exact ok.stop hh P1 U1 hx λg2 x b2 is=>off g2 x (b2 _ _ D.i1z.symm Z1) is λg' b' is'=>out g' x (λc o ne e=>b'.extBut _ _ ne.1 (b2 _ _ ne.2.2.1 (f1 c o ne.1 e))) is'
 | some x =>
  refine ok.item P1 U1 hx λg2 P2 b2=>wpAny_pure ?_
  have To2:IsPair g2 to' c0 c1:=b2.extBut _ _ D.TOi1 (f1 _ _ D.TOz To)
  refine wpAny_bind (wpAny_seqItems To2 rfl (wpAny_bind (wpAny_updateSeq_pair To2 λg3 To3 b3=>wpAny_bind (wpAny_letGo (wpAny_pure ?_)))))
  replace To3:IsPair g3 to' x c1:=To3
  have f3:∀ c o,c≠to'->c≠p->g1.get? c=some o->g3.get? c=some o:=λc o n1 n2 e=>b3.extBut _ _ n1 (b2.extBut _ _ n2 e)
  have Z3:IsZip g3 z ta to' .ellipsis:=f3 _ _ D.TOz.symm D.i1z.symm Z1
  dsimp only
  rw [List.forIn_cons]
  refine wpAny_bind (wpAny_bind (wpAny_onRaise (wpAny_bind (m:=Builtin.SmallTypes.nextOf (.ref q)) ?_)))
  have Q3:=ok.itAt P' λo e=>f3 _ o D.TOi2.symm D.i12.symm (f1 _ o D.i2z e)
  have V3:=ok.sqAt U' λo e=>f3 _ o D.l2TO D.l2i1 (f1 _ o D.l2z e)
  cases hy:ys[n]? with
  | none =>
   obtain ⟨hh,out⟩:=gone (.inr hy)
   exact ok.stop hh Q3 V3 hy λg4 x b4 is=>off g4 x (b4 _ _ D.i2z.symm Z3) is λg' b' is'=>out g' x (λc o ne e=>b'.extBut _ _ ne.1 (b4 _ _ ne.2.2.2 (f3 c o ne.2.1 ne.2.2.1 (f1 c o ne.1 e)))) is'
  | some y =>
   refine ok.item Q3 V3 hy λg4 Q4 b4=>wpAny_pure ?_
   have To4:IsPair g4 to' x c1:=b4.extBut _ _ D.TOi2 To3
   refine wpAny_bind (wpAny_seqItems To4 rfl (wpAny_bind (wpAny_updateSeq_pair To4 λg5 To5 b5=>wpAny_bind (wpAny_letGo (wpAny_pure ?_)))))
   replace To5:IsPair g5 to' x y:=To5
   have f5:∀ c o,c≠to'->c≠q->g3.get? c=some o->g5.get? c=some o:=λc o n1 n2 e=>b5.extBut _ _ n1 (b4.extBut _ _ n2 e)
   dsimp only
   rw [List.forIn_nil]
   refine wpAny_pure (wpAny_bind (wpAny_seqItems To5 rfl (wpAny_bind (wpAny_newTuple ?_))))
   have same:g5.objs.size=s.heap.objs.size:=b5.1.trans (b4.1.trans (b3.1.trans (b2.1.trans b1.1)))
   have Z5:IsZip g5 z ta to' .ellipsis:=f5 _ _ D.TOz.symm D.i2z.symm Z3
   have far:g5.objs.size≠z:=Nat.ne_of_gt (Heap.lt_size Z5)
   have Z6:IsZip (g5.push { cls:=.type "tuple", data:=.seq #[x,y] }) z ta to' .ellipsis:=Heap.get?_push_of_some _ Z5
   refine wpAny_bind (m:=Builtin.SmallTypes.ownedTupleHandOut (.ref z) (.ref g5.objs.size)) (wpAny_bind (wpAny_setField_rec Z6 (by simp) λg7 Z7 b7=>?_))
   refine wpAny_setField_rec Z7 (by simp) λg8 Z8 b8=>wpAny_pure ?_
   replace Z8:IsZip g8 z ta to' (rawInt g5.objs.size):=Z8
   have f8:∀ c o,c≠z->g5.get? c=some o->g8.get? c=some o:=λc o ne e=>b8.extBut _ _ ne (b7.extBut _ _ ne (Heap.get?_push_of_some _ e))
   have T8:IsPair g8 g5.objs.size x y:=b8.extBut _ _ far (b7.extBut _ _ far (Heap.get?_push_size _ rfl))
   have size8:g8.objs.size=g5.objs.size+1:=b8.1.trans (b7.1.trans (Heap.size_push ..))
   show Q (.done (.ret (.ref g5.objs.size))) { s with heap:=g8 }
   rw [same] at Z8 T8 size8 ⊢
   exact both x y hx hy g8 ⟨size8,T8⟩ Z8 (f8 _ _ D.TOz To5) ⟨ok.itAt P2 λo e=>f8 _ o D.i1z (f5 _ o D.TOi1.symm D.i12 (b3.extBut _ _ D.TOi1.symm e)),ok.itAt Q4 λo e=>f8 _ o D.i2z (b5.extBut _ _ D.TOi2.symm e)⟩
    λc o ne e=>f8 c o ne.1 (f5 c o ne.2.1 ne.2.2.2 (f3 c o ne.2.1 ne.2.2.1 (f1 c o ne.1 e)))
abbrev zk1 (k:Kd) (h:Heap) (l1:Addr):Heap:=h.push { cls:=.type k.nm,data:=.fields #[.ref l1,.int 0 0] }
abbrev zk2 (k:Kd) (h:Heap) (l1 l2:Addr):Heap:=(zk1 k h l1).push { cls:=.type k.nm,data:=.fields #[.ref l2,.int 0 0] }
abbrev zk3 (k:Kd) (h:Heap) (l1 l2:Addr):Heap:=(zk2 k h l1 l2).push { cls:=.type "tuple", data:=.seq #[.ref h.objs.size,.ref (zk1 k h l1).objs.size] }
abbrev zk4 (k:Kd) (h:Heap) (l1 l2:Addr):Heap:=(zk3 k h l1 l2).push { cls:=.type "tuple", data:=.seq #[.none,.none] }
abbrev zk5 (k:Kd) (h:Heap) (l1 l2:Addr):Heap:=(zk4 k h l1 l2).push { cls:=.type "zip", data:=.fields #[.none,.bool false,.bool false,.ref (zk2 k h l1 l2).objs.size,.ref (zk3 k h l1 l2).objs.size] }
theorem lT' (ok:KdOk k) (l1 l2:Addr) (xs ys:Array Value) :
  Meets (Builtin.«zip.__new__» ⟨[.type "zip", .ref l1,.ref l2],[]⟩) (λ_ R s=>k.sq s.heap l1 xs/\k.sq s.heap l2 ys ∧
   ∀ h',IsZip h' (s.heap.objs.size+4) (s.heap.objs.size+2) (s.heap.objs.size+3) .none->IsPair h' (s.heap.objs.size+2) (.ref s.heap.objs.size) (.ref (s.heap.objs.size+1)) →
    IsPair h' (s.heap.objs.size+3) .none .none->k.it h' s.heap.objs.size l1 0->k.it h' (s.heap.objs.size+1) l2 0->(∀ c o,s.heap.get? c=some o->h'.get? c=some o)->R (.ok (.ret (.ref (s.heap.objs.size+4)))) { s with heap:=h' }) :=
 .of_wp λprog w A R s h=>by
  obtain ⟨hp,gn,dw,tk,os⟩:=s
  obtain ⟨hl1,hl2,h⟩:=h
  have hsub:=sub_zip
  have hL1:k.sq (Shared.heap ⟨hp,gn,dw,tk,os⟩) l1 xs:=hl1
  have hL2:k.sq (Shared.heap ⟨zk1 k hp l1,gn,dw,tk,os⟩) l2 ys:=ok.sqAt hl2 λo e=>Heap.get?_push_of_some _ e
  wp_walk using ok.iter hL1,ok.iter hL2
  refine ⟨_,rfl,?_⟩
  have z1:(zk1 k hp l1).objs.size=hp.objs.size+1:=Heap.size_push ..
  have z2:(zk2 k hp l1 l2).objs.size=hp.objs.size+2:=by rw [Heap.size_push,z1]
  have z3:(zk3 k hp l1 l2).objs.size=hp.objs.size+3:=by rw [Heap.size_push,z2]
  have z4:(zk4 k hp l1 l2).objs.size=hp.objs.size+4:=by rw [Heap.size_push,z3]
  have g5:(zk5 k hp l1 l2).get? (zk4 k hp l1 l2).objs.size=some { cls:=.type "zip", data:=.fields #[.none,.bool false,.bool false,.ref (zk2 k hp l1 l2).objs.size,.ref (zk3 k hp l1 l2).objs.size] }:=Heap.get?_push_size _ rfl
  have g4:(zk5 k hp l1 l2).get? (zk3 k hp l1 l2).objs.size=some { cls:=.type "tuple", data:=.seq #[.none,.none] }:=Heap.get?_push_of_some _ (Heap.get?_push_size _ rfl)
  have g3:(zk5 k hp l1 l2).get? (zk2 k hp l1 l2).objs.size=some { cls:=.type "tuple", data:=.seq #[.ref hp.objs.size,.ref (zk1 k hp l1).objs.size] }:=Heap.get?_push_of_some _ (Heap.get?_push_of_some _ (Heap.get?_push_size _ rfl))
  have n2:k.it (zk2 k hp l1 l2) (zk1 k hp l1).objs.size l2 0:=ok.new
  have n1:k.it (zk1 k hp l1) hp.objs.size l1 0:=ok.new
  have i2:k.it (zk5 k hp l1 l2) (zk1 k hp l1).objs.size l2 0:=ok.itAt n2 λo e=>Heap.get?_push_of_some _ (Heap.get?_push_of_some _ (Heap.get?_push_of_some _ e))
  have i1:k.it (zk5 k hp l1 l2) hp.objs.size l1 0:=ok.itAt n1 λo e=>Heap.get?_push_of_some _ (Heap.get?_push_of_some _ (Heap.get?_push_of_some _ (Heap.get?_push_of_some _ e)))
  show R (.ok (.ret (.ref (zk4 k hp l1 l2).objs.size))) { heap:=zk5 k hp l1 l2,gens:=gn,drawn:=dw,toks:=tk,os:=os }
  rw [z2,z3,z4] at g5
  rw [z1,z2] at g3
  rw [z3] at g4
  rw [z1] at i2
  rw [z4]
  exact h (zk5 k hp l1 l2) g5 g3 g4 i1 i2 λc o e=>Heap.get?_push_of_some _ (Heap.get?_push_of_some _ (Heap.get?_push_of_some _ (Heap.get?_push_of_some _ (Heap.get?_push_of_some _ e))))
theorem m9' (ok:KdOk k){l1 l2:Addr}{xs ys:Array Value}{Q:Value->Shared->Prop} (hl1:k.sq s.heap l1 xs) (hl2:k.sq s.heap l2 ys)
  (made:∀ n h',n=s.heap.objs.size->IsZip h' (n+4) (n+2) (n+3) .none->IsPair h' (n+2) (.ref n) (.ref (n+1))->IsPair h' (n+3) .none .none->k.it h' n l1 0->k.it h' (n+1) l2 0->(∀ c o,s.heap.get? c=some o->h'.get? c=some o)->Q (.ref (n+4)) { s with heap:=h' }) :
  wpAny (model prog w) A (call (Value.type "zip") ([l1,l2].map Value.ref)) Q E s :=
 callType_new F.called_zip (by decide) (F.typeCall_zip_2 _ _) (F.newCall_zip_2 _ _) (λobj=>F.args_object_init_3 obj _ _) F.entry_zip_new (lT' ok l1 l2 xs ys) ⟨hl1,hl2,λh' b1 b2 b3 b4 b5 b6=>⟨⟨_,b1,rfl⟩,made _ h' rfl b1 b2 b3 b4 b5 b6⟩⟩
end
section
variable {X:Cx}{k:Kd}
def Itz (rd:Hp->Addr->List V->Prop) (l1 l2:Addr):It :=
 ⟨λi H=>∃ xs ys x y,rd H l1 xs/\rd H l2 ys/\xs[i]?=some x/\ys[i]?=some y,
  λi H v H'=>∃ p x y,H p=none/\v=.ref p/\H'=upd H p (.tup [x,y])/\(∀ xs,rd H l1 xs->xs[i]?=some x)/\(∀ ys,rd H l2 ys->ys[i]?=some y),
  λi H=>∃ xs ys,rd H l1 xs/\rd H l2 ys/\(xs.length<=i\/ys.length<=i)⟩
structure KdRd (K:PySem.W.Frag) (k:Kd) (rd:Hp->Addr->List V->Prop):Prop where
 of:∀ {X:Cx}{pins:List (Addr×Obj)}{σ:L2.St}{H:Hp}{s:Shared}{a:Addr}{xs:List V},X.K=K->Inv X pins σ H s->rd H a xs->∃ its:List Value,Vals xs its/\k.sq s.heap a its.toArray
 inj:∀ {X:Cx}{pins:List (Addr×Obj)}{σ:L2.St}{H:Hp}{s:Shared}{a:Addr}{xs ys:List V},X.K=K->Inv X pins σ H s->rd H a xs->rd H a ys->xs=ys
theorem pi' (K:PySem.W.Frag):KdRd K kdL (λH a xs=>SqL K H a xs) where
 of:=λe I h=>by subst e;obtain ⟨its,r,t,_⟩:=I.list h;exact ⟨its,r,t.isList⟩
 inj:=λe I h h'=>by subst e;exact I.list_inj h h'
theorem pj' (K:PySem.W.Frag):KdRd K kdT (λH a xs=>SqT K H a xs) where
 of:=λe I h=>by subst e;obtain ⟨its,r,t,_⟩:=I.tuple h;exact ⟨its,r,t⟩
 inj:=λe I h h'=>by subst e;exact I.tuple_inj h h'
theorem oD' {P:Program}{w:World}{K:PySem.W.Frag}{elts:List Expr}{x1:Nat}{tp:Pos}{rd:Hp->Addr->List V->Prop} (ok:KdOk k) (kr:KdRd K k rd){z TI TO i1 i2 l1 l2:Addr} (D:ZipApart z TI TO i1 i2 l1 l2) :
  Turn P w K (.Tuple elts x1 tp) (Itz rd l1 l2) [z,TI,TO,i1,i2] z (λi h=>IsZip h z TI TO .none/\IsPair h TI (.ref i1) (.ref i2)/\(∃ a b,IsPair h TO a b)/\k.it h i1 l1 i/\k.it h i2 l2 i) where
 mem:=by simp
 obj:=λi h st b hb=>by
  obtain ⟨a1,a2,⟨x,y,a3⟩,a4,a5⟩:=st
  rw [List.mem_cons,List.mem_cons,List.mem_cons,List.mem_cons,List.mem_singleton] at hb
  rcases hb with rfl | rfl | rfl | rfl | rfl
  ·exact ⟨_,a1,λv q=>by cases (show Data.fields _=Data.cell v from q)⟩
  ·exact ⟨_,a2,λv q=>by cases (show Data.seq _ _=Data.cell v from q)⟩
  ·exact ⟨_,a3,λv q=>by cases (show Data.seq _ _=Data.cell v from q)⟩
  ·exact ok.itObj a4
  ·exact ok.itObj a5
 keep:=λi h h' st kk=>by
  obtain ⟨a1,a2,⟨x,y,a3⟩,a4,a5⟩:=st
  exact ⟨kk _ (by simp) _ a1,kk _ (by simp) _ a2,⟨x,y,kk _ (by simp) _ a3⟩,ok.itAt a4 λo e=>kk _ (by simp) o e,ok.itAt a5 λo e=>kk _ (by simp) o e⟩
 item:=by
  intro X hP hw hK hc i pins s σ H E I hf st hg
  subst hP hw
  obtain ⟨a1,a2,⟨av,bv,a3⟩,a4,a5⟩:=st
  obtain ⟨xs,ys,x,y,g1,g2,g3,g4⟩:=hg
  obtain ⟨its,r1,t1⟩:=kr.of hK I g1
  obtain ⟨jts,r2,t2⟩:=kr.of hK I g2
  obtain ⟨u1,e1,e2⟩:=r1.get g3
  obtain ⟨u2,e3,e4⟩:=r2.get g4
  have hT:s.TypeIs (.ref z) "zip":=⟨_,a1,rfl⟩
  unfold pyNext
  refine wpAny_bind (wpAny_attempt (wpAny_callSpecial?_slot (name:=Str.ofString "__next__") hT F.slot_zip_next (wpAny_call_entry F.slot_zip_next hT F.entry_zip_next (jn' ok D a1 a2 a3 a4 a5 t1 t2 ?_ ?_) (F.args_zip_next_1 _))))
  case refine_2 =>
   intro non
   have f1:its.toArray[i]?=some u1:=by simpa using e1
   have f2:jts.toArray[i]?=some u2:=by simpa using e3
   rw [f1,f2] at non
   rcases non with non | non<;>cases non
  intro y1 y2 k1 k2 h' ⟨_,b5⟩ b1 b2 ⟨b3,b4⟩ b7
  have f1:its.toArray[i]?=some u1:=by simpa using e1
  have f2:jts.toArray[i]?=some u2:=by simpa using e3
  rw [f1] at k1;cases k1
  rw [f2] at k2;cases k2
  refine ⟨_,rfl,wpAny_pure ⟨.ref s.heap.objs.size,rfl,wpAny_letOwnedTupleGo_zip b1 λh2 c1 c2=>?_⟩⟩
  have lt:∀ {b o},s.heap.get? b=some o->b≠s.heap.objs.size:=λ{b o} e=>Nat.ne_of_lt (Heap.lt_size e)
  have zlt:=lt a1
  have tilt:=lt a2
  have tolt:=lt a3
  have kk:∀ b u,b∉[z,TI,TO,i1,i2]->s.heap.get? b=some u->h2.get? b=some u:=λb u hb e=>by
   simp only [List.mem_cons,List.not_mem_nil,or_false,not_or] at hb
   exact c2.extBut _ _ hb.1 (b7 b u ⟨hb.1,hb.2.2.1,hb.2.2.2.1,hb.2.2.2.2⟩ e)
  have pT:IsPair h2 s.heap.objs.size u1 u2:=c2.extBut _ _ (Ne.symm zlt) b5
  have I1:Inv X pins σ (upd H s.heap.objs.size (.tup [x,y])) { s with heap:=h2 }:=jm' (t':=s.toks) I hf kk (Nat.le_refl _) ⟨by show 2<=sizeLine;rw [sizeLine_eq];decide,[u1,u2],.cons e2 (.cons e4 .nil),⟨_,pT,rfl,_,rfl⟩⟩
  have fr:=I.hok.fresh (Nat.le_refl s.heap.objs.size)
  refine ⟨.ref s.heap.objs.size,_,I1,rfl,⟨s.heap.objs.size,x,y,fr,rfl,rfl,λzs hz=>by rw [kr.inj hK I hz g1];exact g3,λzs hz=>by rw [kr.inj hK I hz g2];exact g4⟩,⟨c1,c2.extBut _ _ D.TIz (b7 _ _ ⟨D.TIz,D.TITO,D.TIi1,D.TIi2⟩ a2),⟨u1,u2,c2.extBut _ _ D.TOz b2⟩,ok.itAt b3 λo e=>c2.extBut _ _ D.i1z e,ok.itAt b4 λo e=>c2.extBut _ _ D.i2z e⟩,λb hb=>?_⟩
  have hb0:=(hf b hb).1
  have nb:b≠s.heap.objs.size:=by
   rw [List.mem_cons,List.mem_cons,List.mem_cons,List.mem_cons,List.mem_singleton] at hb
   rcases hb with rfl | rfl | rfl | rfl | rfl
   ·exact zlt
   ·exact tilt
   ·exact tolt
   ·exact Nat.ne_of_lt (ok.itLt a4)
   ·exact Nat.ne_of_lt (ok.itLt a5)
  rw [aj' nb];exact hb0
 done:=by
  intro X hP hw hK hc i pins s σ H E I hf st hg
  subst hP hw
  obtain ⟨a1,a2,⟨av,bv,a3⟩,a4,a5⟩:=st
  obtain ⟨xs,ys,g1,g2,g3⟩:=hg
  obtain ⟨its,r1,t1⟩:=kr.of hK I g1
  obtain ⟨jts,r2,t2⟩:=kr.of hK I g2
  have hl1:=r1.length
  have hl2:=r2.length
  have hT:s.TypeIs (.ref z) "zip":=⟨_,a1,rfl⟩
  unfold pyNext
  refine wpAny_bind (wpAny_attempt (wpAny_callSpecial?_slot (name:=Str.ofString "__next__") hT F.slot_zip_next (wpAny_call_entry F.slot_zip_next hT F.entry_zip_next (jn' ok D a1 a2 a3 a4 a5 t1 t2 ?_ λ_=>⟨I.ok.hd hc,λh' e hk he=>?_⟩) (F.args_zip_next_1 _))))
  ·intro y1 y2 k1 k2
   have m1:=(Array.getElem?_eq_some_iff.mp k1).1
   have m2:=(Array.getElem?_eq_some_iff.mp k2).1
   simp at m1 m2
   omega
  ·obtain ⟨o,ho,hce⟩:=he
   refine wpAny_bind (wpAny_isInstance (T := "StopIteration") (b:=true) ⟨o,ho,hce⟩ isSubtype_stop ?_)
   refine wpAny_pure ⟨rfl,ir' (t':=s.toks) I hf λb u hb e=>?_⟩
   simp only [List.mem_cons,List.not_mem_nil,or_false,not_or] at hb
   exact hk b u ⟨hb.1,hb.2.2.1,hb.2.2.2.1,hb.2.2.2.2⟩ e
 self:=λ_ _ _ _ _ st h=>wpAny_pyIter_zip st.1 h
end
end DL
namespace DL
open PySem PySem.Spec PyProof.Rows L2
section
variable {X:Cx}{B:BB}{a b c e:Expr}{es:List Expr}{pos:Pos}{ga gb gc:M D}
def iZip (K:PySem.W.Frag) (ta:TA):TI:=λσ H R=>ta σ H λvs H1=>(∃ l1 l2 xs ys,vs=[.ref l1,.ref l2]/\SqL K H1 l1 xs/\SqL K H1 l2 ys/\R (Itz (λH a xs=>SqL K H a xs) l1 l2) H1)\/(∃ l1 l2 xs ys,vs=[.ref l1,.ref l2]/\SqT K H1 l1 xs/\SqT K H1 l2 ys/\R (Itz (λH a xs=>SqT K H a xs) l1 l2) H1)
theorem na' {k:Kd}{rd:Hp->Addr->List V->Prop} (ok:KdOk k) (kr:KdRd X.K k rd){elts:List Expr}{x1:Nat}{tp:Pos}{pins:List (Addr×Obj)}{σ:L2.St}{H:Hp}{s:Shared}{R:It->Hp->Prop}{l1 l2:Addr}{xs ys:List V} (I:Inv X pins σ H s) (h1:rd H l1 xs) (h2:rd H l2 ys) (q:R (Itz rd l1 l2) H) :
  wpAny (model X.prog X.w) X.A (call (.type "zip") [.ref l1,.ref l2]) (λv s1=>wpAny (model X.prog X.w) X.A (pyIter v) (PIE X pins σ (.Tuple elts x1 tp) R) X.xe s1) X.xe s:=by
 obtain ⟨its,r1,t1⟩:=kr.of rfl I h1
 obtain ⟨jts,r2,t2⟩:=kr.of rfl I h2
 refine m9' ok t1 t2 λn h' hn a1 a2 a3 a4 a5 a6=>wpAny_pyIter_zip a1 ?_
 subst hn
 have I1:Inv X pins σ H { s with heap:=h' }:=I.kept (t':=s.toks) a6
 refine ⟨s.heap.objs.size+4,[s.heap.objs.size+4,s.heap.objs.size+2,s.heap.objs.size+3,s.heap.objs.size,s.heap.objs.size+1],_,_,H,rfl,I1,oD' ok kr (zipApart_new (ok.sqLt t1) (ok.sqLt t2)),⟨a1,a2,⟨_,_,a3⟩,a4,a5⟩,λb hb=>?_,q⟩
 rw [List.mem_cons,List.mem_cons,List.mem_cons,List.mem_cons,List.mem_singleton] at hb
 have up:∀ n,FpOk X pins H (s.heap.objs.size+n):=λn=>I.fpOk (Nat.le_add_right _ _) (I.hok.fresh (Nat.le_add_right _ _))
 rcases hb with rfl | rfl | rfl | rfl | rfl
 ·exact up 4
 ·exact up 2
 ·exact up 3
 ·exact up 0
 ·exact up 1
theorem ro' {elts:List Expr}{x1:Nat}{tp p:Pos}{ta:TA} (hg:Gl X "zip") (hm:X.mg "zip"=none) (ha:PA X [a,b] ta) (hs:starEach [a,b] X.env=[(false,eval a X.env),(false,eval b X.env)]:=by rfl) (hs2:starEach [b] X.env=[(false,eval b X.env)]:=by rfl) :
  PI X (.Tuple elts x1 tp) (.Call (.Name "zip" p) [a,b] [] pos) (iZip X.K ta):=by
 intro pins s σ H R I h
 refine Call_ (cY' I hg hm boot_zip (PyProof.Rows.callWith_type1 (thn (ha pos pins s σ H _ I h) λus s1 ⟨vs,H1,I1,r1,q1⟩=>?_) (by rw [hs,hs2]) (by rw [hs2];rfl)))
 rcases q1 with ⟨l1,l2,xs,ys,e,h1,h2,q⟩ | ⟨l1,l2,xs,ys,e,h1,h2,q⟩
 ·subst e
  obtain ⟨u1,u2,rfl,e1,e2⟩:=r1.two
  cases e1;cases e2
  exact na' m7' (pi' _) I1 h1 h2 q
 ·subst e
  obtain ⟨u1,u2,rfl,e1,e2⟩:=r1.two
  cases e1;cases e2
  exact na' m8' (pj' _) I1 h1 h2 q
def pairsD (xs ys:List D):List D:=(xs.zip ys).map λp=>.tup [p.1,p.2]
def zipI (ds:List D):Option (List D):=match ds with
 | [.lst xs,.lst ys]=>some (pairsD xs ys)
 | [.tup xs,.tup ys]=>some (pairsD xs ys)
 | _=>none
theorem gJ' {K:PySem.W.Frag}{I:Hp}{rd:Hp->Addr->List V->Prop}{l1 l2:Addr}{xs ys:List V}{ds es:List D} (mono:∀ {H a xs},Same I H->rd I a xs->rd H a xs) (inj:∀ {H},Same I H->(∀ zs,rd H l1 zs->zs=xs)/\(∀ zs,rd H l2 zs->zs=ys)\/True) (h1:rd I l1 xs) (h2:rd I l2 ys) (i1:IsA K I ds xs) (i2:IsA K I es ys):Yields K I (pairsD ds es) (Itz rd l1 l2):=λi H s=>by
 have L1:=i1.length
 have L2:=i2.length
 refine ⟨λd hd=>?_,λhi=>⟨xs,ys,mono s h1,mono s h2,?_⟩⟩
 ·unfold pairsD at hd
  obtain ⟨q,e1,rfl⟩:=getMap hd
  obtain ⟨e2,e3⟩:=List.getElem?_zip_eq_some.mp e1
  obtain ⟨x,f1,f2⟩:=i1.get e2
  obtain ⟨y,f3,f4⟩:=i2.get e3
  refine ⟨⟨xs,ys,x,y,mono s h1,mono s h2,f1,f3⟩,λv H2 hy=>?_⟩
  obtain ⟨p,x',y',g1,g2,g3,g4,g5⟩:=hy
  have k1:=g4 xs (mono s h1)
  have k2:=g5 ys (mono s h2)
  rw [f1] at k1;cases k1
  rw [f3] at k2;cases k2
  exact .inr ⟨p,[q.1,q.2],[x,y],rfl,g2,g1,g3,IsA.cons f2 (IsA.cons f4 IsA.nil)⟩
 ·unfold pairsD at hi
  rw [List.length_map,List.length_zip] at hi
  omega
theorem pW' {elts:List Expr}{x1:Nat}{tp p:Pos}{t:M (List D)} (hg:Gl X "zip") (hm:X.mg "zip"=none) (ha:AD X B [a,b] t) (hs:starEach [a,b] X.env=[(false,eval a X.env),(false,eval b X.env)]:=by rfl) (hs2:starEach [b] X.env=[(false,eval b X.env)]:=by rfl) :
  ITD X B (.Tuple elts x1 tp) (.Call (.Name "zip" p) [a,b] [] pos) (fn1 zipI t):=PI.imp (ro' hg hm ha hs hs2) λσ H R q=>by
 obtain ⟨G,I,Γ,ds,Γ',r,e1,k⟩:=q
 obtain ⟨d,Γ1,e2,e3⟩:=ae' e1
 obtain ⟨e4,rfl⟩:=ao' e3
 refine ⟨G,I,Γ,d,_,r,e2,λvs H1 I1 r1 g1 hd=>?_⟩
 unfold zipI at e4
 split at e4
 ·cases e4
  obtain ⟨x,y,rfl,hx,hy⟩:=hd.two
  obtain ⟨l1,xs,rfl,h1,h2⟩:=aB' hx
  obtain ⟨l2,ys,rfl,h3,h4⟩:=aB' hy
  exact .inl ⟨l1,l2,xs,ys,rfl,(Same.rdK r1.iH h1).sq,(Same.rdK r1.iH h3).sq,k _ _ _ r1 g1 (gJ' (λs h=>by rcases h with h | h;exact .inl (Same.rd s h);exact .inr h) (λ_=>.inr trivial) h1.sq h3.sq h2 h4)⟩
 ·cases e4
  obtain ⟨x,y,rfl,hx,hy⟩:=hd.two
  obtain ⟨l1,xs,rfl,h1,h2⟩:=as' hx
  obtain ⟨l2,ys,rfl,h3,h4⟩:=as' hy
  exact .inr ⟨l1,l2,xs,ys,rfl,Same.sqT r1.iH h1,Same.sqT r1.iH h3,k _ _ _ r1 g1 (gJ' (λs h=>Same.sqT s h) (λ_=>.inr trivial) h1 h3 h2 h4)⟩
 ·cases e4
section
variable {k:Kd}
theorem drawsK (ok:KdOk k){prog:Program}{w:World}{A:Around} (hh:A.handled=none) (it l:Addr) (hne:l≠it) (items:Array Value):Draws prog w A it [it,l] items.size (λi v=>items[i]?=some v) (λi h=>k.it h it l i/\k.sq h l items) where
 live:=λi h st=>by obtain ⟨o,e,_⟩:=ok.itObj st.1;exact ⟨o,e⟩
 frame:=λi h h' st kk=>⟨ok.itAt st.1 λo e=>kk _ (by simp) o e,ok.sqAt st.2 λo e=>kk _ (by simp) o e⟩
 item:=λi s Q E hi st hQ=>ok.item st.1 st.2 (x:=items[i]) (by simp [hi]) λh' h1 h2=>hQ _ h' s.toks (by simp [hi]) ⟨h1,ok.sqAt st.2 λo e=>h2.extBut _ _ hne e⟩ h2
 done:=λs Q E st hE=>ok.stop hh st.1 st.2 (by simp) hE
theorem ks' (ok:KdOk k) (l:Addr) (items:Array Value) :
  Meets (Builtin.«enumerate.__new__» ⟨[.type "enumerate", .ref l],[]⟩) (λ_ R s=>k.sq s.heap l items ∧
   R (.ok (.ret (.ref (s.heap.push { cls:=.type k.nm,data:=.fields #[.ref l,.int 0 0] }).objs.size)))
    { s with heap:=(s.heap.push { cls:=.type k.nm,data:=.fields #[.ref l,.int 0 0] }).push { cls:=.type "enumerate", data:=.fields #[.none,.bool false,.ref s.heap.objs.size,rawInt 0,.none,.none] } }) :=
 .of_wp λprog w A R s h=>by
  obtain ⟨hp,gn,dw,tk,os⟩:=s
  obtain ⟨hl,h⟩:=h
  have hsub:=sub_enumerate
  have hL:k.sq (Shared.heap ⟨hp,gn,dw,tk,os⟩) l items:=hl
  wp_walk using ok.iter hL
  refine wpAny_stack_any λframes=>wpAny_pure ?_
  split
  next c _ _ _ _ _=>cases c == Value.type "enumerate"<;>(wp_walk using ok.iter hL;exact ⟨_,rfl,h⟩)
  next=>wp_walk using ok.iter hL;exact ⟨_,rfl,h⟩
end
end
end DL
namespace DL
open PySem PySem.Spec PyProof.Rows L2
section
variable {prog:Program}{w:World}{A:Around}{E:Value->Shared->Prop}{s:Shared}{k:Kd}
abbrev en1 (k:Kd) (h:Heap) (l:Addr):Heap:=h.push { cls:=.type k.nm,data:=.fields #[.ref l,.int 0 0] }
abbrev en2 (k:Kd) (h:Heap) (l:Addr):Heap:=(en1 k h l).push { cls:=.type "enumerate", data:=.fields #[.none,.bool false,.ref h.objs.size,rawInt 0,.none,.none] }
theorem lU' (ok:KdOk k){l:Addr}{items:Array Value}{Q:Value->Shared->Prop} (hL:k.sq s.heap l items)
  (made:∀ n g,n=s.heap.objs.size->IsEnum g (n+1) n 0 .none->k.it g n l 0->(∀ b o,s.heap.get? b=some o->g.get? b=some o)->Q (.ref (n+1)) { s with heap:=g }) :
  wpAny (model prog w) A (call (Value.type "enumerate") ([l].map Value.ref)) Q E s:=by
 have size1:(en1 k s.heap l).objs.size=s.heap.objs.size+1:=Heap.size_push ..
 have at2:(en2 k s.heap l).get? (en1 k s.heap l).objs.size=some _:=Heap.get?_push_size _ rfl
 rw [size1] at at2
 refine callType_new F.called_enumerate (by decide) (F.typeCall_enumerate_1 _) (F.newCall_enumerate_1 _) (λobj=>F.args_object_init_2 obj _) F.entry_enumerate_new (ks' ok l items) ⟨hL,?_⟩
 have put:Q (.ref (s.heap.objs.size+1)) { s with heap:=en2 k s.heap l }:=made _ _ rfl at2 (ok.itAt ok.new λo e=>Heap.get?_push_of_some _ e) λb o x=>Heap.get?_push_of_some _ (Heap.get?_push_of_some _ x)
 rw [← size1] at put at2
 exact ⟨⟨_,at2,rfl⟩,put⟩
end
section
variable {X:Cx}{B:BB}{a b c e:Expr}{es:List Expr}{pos:Pos}{ga gb gc:M D}{k:Kd}
def Ite (rd:Hp->Addr->List V->Prop) (l:Addr):It :=
 ⟨λi H=>∃ xs x,rd H l xs/\xs[i]?=some x,λi H v H'=>∃ p x,H p=none/\v=.ref p/\H'=upd H p (.tup [.int i,x])/\(∀ xs,rd H l xs->xs[i]?=some x),λi H=>∃ xs,rd H l xs/\xs.length<=i⟩
theorem nb' {P:Program}{w:World}{K:PySem.W.Frag}{elts:List Expr}{x1:Nat}{tp:Pos}{rd:Hp->Addr->List V->Prop} (ok:KdOk k) (kr:KdRd K k rd){z it l:Addr} (hzi:z≠it) (hli:l≠it) (hzl:z≠l) :
  Turn P w K (.Tuple elts x1 tp) (Ite rd l) [z,it] z (λi h=>(∃ old,IsEnum h z it i old)/\k.it h it l i) where
 mem:=by simp
 obj:=λi h st b hb=>by
  obtain ⟨⟨old,a1⟩,a2⟩:=st
  rw [List.mem_cons,List.mem_singleton] at hb
  rcases hb with rfl | rfl
  ·exact ⟨_,a1,λv q=>by cases (show Data.fields _=Data.cell v from q)⟩
  ·exact ok.itObj a2
 keep:=λi h h' st kk=>by
  obtain ⟨⟨old,a1⟩,a2⟩:=st
  exact ⟨⟨old,kk _ (by simp) _ a1⟩,ok.itAt a2 λo e=>kk _ (by simp) o e⟩
 item:=by
  intro X hP hw hK hc i pins s σ H E I hf st hg
  subst hP hw
  obtain ⟨⟨old,a1⟩,a2⟩:=st
  obtain ⟨xs,x,g1,g3⟩:=hg
  obtain ⟨its,r1,t1⟩:=kr.of hK I g1
  obtain ⟨u1,e1,e2⟩:=r1.get g3
  have hlen:i < its.toArray.size:=by
   have:=(List.getElem?_eq_some_iff.mp e1).1
   simpa using this
  have D:=drawsK ok (prog:=X.prog) (w:=X.w) (A:=X.A.in1) (I.ok.hd hc) it l hli its.toArray
  refine wpAny_pyNext_enum_itemD D a1 ⟨a2,t1⟩ hlen hzi (by simp [hzi,hzl]) λy h' tk b0 b1 b2 b3 b4 b5=>?_
  have hy:y=u1:=by
   have e1':its.toArray[i]?=some u1:=by simpa using e1
   have b0':its.toArray[i]?=some y:=b0
   rw [e1'] at b0';cases b0';rfl
  subst hy
  refine ⟨.ref s.heap.objs.size,rfl,wpAny_letOwnedTupleGo_enum b1 λh2 c1 c2=>?_⟩
  have zlt:z≠s.heap.objs.size:=Nat.ne_of_lt (Heap.lt_size a1)
  have ilt:it≠s.heap.objs.size:=Nat.ne_of_lt (ok.itLt a2)
  have kk:∀ b u,b∉[z,it]->s.heap.get? b=some u->h2.get? b=some u:=λb u hb e=>by
   simp only [List.mem_cons,List.not_mem_nil,or_false,not_or] at hb
   exact c2.extBut _ _ hb.1 (b5 b u hb.1 hb.2 e)
  have pT:=c2.extBut _ _ (Ne.symm zlt) b3
  have I1:Inv X pins σ (upd H s.heap.objs.size (.tup [.int i,x])) { s with heap:=h2,toks:=tk+1 }:=jm' (t':=tk+1) I hf kk (Nat.le_refl _) ⟨by show 2<=sizeLine;rw [sizeLine_eq];decide,[.int i tk,y],.cons ⟨_,rfl⟩ (.cons e2 .nil),⟨_,pT,rfl,_,rfl⟩⟩
  have fr:=I.hok.fresh (Nat.le_refl s.heap.objs.size)
  refine ⟨.ref s.heap.objs.size,_,I1,rfl,⟨s.heap.objs.size,x,fr,rfl,rfl,λzs hz=>by rw [kr.inj hK I hz g1];exact g3⟩,⟨⟨y,c1⟩,ok.itAt b2.1 λo e=>c2.extBut _ _ hzi.symm e⟩,λb hb=>?_⟩
  have hb0:=(hf b hb).1
  have nb:b≠s.heap.objs.size:=by
   rw [List.mem_cons,List.mem_singleton] at hb
   rcases hb with rfl | rfl
   ·exact zlt
   ·exact ilt
  rw [aj' nb];exact hb0
 done:=by
  intro X hP hw hK hc i pins s σ H E I hf st hg
  subst hP hw
  obtain ⟨⟨old,a1⟩,a2⟩:=st
  obtain ⟨xs,g1,g3⟩:=hg
  obtain ⟨its,r1,t1⟩:=kr.of hK I g1
  have hl1:=r1.length
  have hT:s.TypeIs (.ref z) "enumerate":=⟨_,a1,rfl⟩
  have hx:its.toArray[i]?=none:=by simp;omega
  unfold pyNext
  refine wpAny_bind (wpAny_attempt (wpAny_callSpecial?_slot (name:=Str.ofString "__next__") hT F.slot_enumerate_next (wpAny_call_entry F.slot_enumerate_next hT F.entry_enumerate_next (wpAny_bind (wpAny_of_eq (a:=(Value.ref z,[])) rfl (wpAny_bind (wpAny_field (i:=2) a1 rfl (x:=.ref it) rfl ?_)))) (F.args_enumerate_next_1 _))))
  refine wpAny_bind (ok.stop (I.ok.hd hc) a2 t1 hx λh' x he' hx'=>?_)
  obtain ⟨o,ho,hce⟩:=hx'
  refine wpAny_bind (wpAny_isInstance (T := "StopIteration") (b:=true) ⟨o,ho,hce⟩ isSubtype_stop ?_)
  refine wpAny_pure ⟨rfl,ir' (t':=s.toks) I hf λb u hb e=>?_⟩
  simp only [List.mem_cons,List.not_mem_nil,or_false,not_or] at hb
  exact he' b u hb.2 e
 self:=λ_ _ _ _ _ st h=>by obtain ⟨⟨old,a1⟩,_⟩:=st;exact wpAny_pyIter_enum a1 h
def iEnum (K:PySem.W.Frag) (ta:TA):TI:=λσ H R=>ta σ H λvs H1=>(∃ l xs,vs=[.ref l]/\SqL K H1 l xs/\R (Ite (λH a xs=>SqL K H a xs) l) H1)\/(∃ l xs,vs=[.ref l]/\SqT K H1 l xs/\R (Ite (λH a xs=>SqT K H a xs) l) H1)
theorem k9' {rd:Hp->Addr->List V->Prop} (ok:KdOk k) (kr:KdRd X.K k rd){elts:List Expr}{x1:Nat}{tp:Pos}{pins:List (Addr×Obj)}{σ:L2.St}{H:Hp}{s:Shared}{R:It->Hp->Prop}{l:Addr}{xs:List V} (I:Inv X pins σ H s) (h1:rd H l xs) (q:R (Ite rd l) H) :
  wpAny (model X.prog X.w) X.A (call (.type "enumerate") [.ref l]) (λv s1=>wpAny (model X.prog X.w) X.A (pyIter v) (PIE X pins σ (.Tuple elts x1 tp) R) X.xe s1) X.xe s:=by
 obtain ⟨its,r1,t1⟩:=kr.of rfl I h1
 refine lU' ok t1 λn h' hn a1 a4 a6=>wpAny_pyIter_enum a1 ?_
 subst hn
 have I1:Inv X pins σ H { s with heap:=h' }:=I.kept (t':=s.toks) a6
 have lt:=ok.sqLt t1
 refine ⟨s.heap.objs.size+1,[s.heap.objs.size+1,s.heap.objs.size],_,_,H,rfl,I1,nb' ok kr (Nat.succ_ne_self _) (Nat.ne_of_lt lt) (Nat.ne_of_gt (Nat.lt_succ_of_lt lt)),⟨⟨_,a1⟩,a4⟩,λb hb=>?_,q⟩
 rw [List.mem_cons,List.mem_singleton] at hb
 have up:∀ n,FpOk X pins H (s.heap.objs.size+n):=λn=>I.fpOk (Nat.le_add_right _ _) (I.hok.fresh (Nat.le_add_right _ _))
 rcases hb with rfl | rfl
 ·exact up 1
 ·exact up 0
theorem pX' {elts:List Expr}{x1:Nat}{tp p:Pos}{ta:TA} (hg:Gl X "enumerate") (hm:X.mg "enumerate"=none) (ha:PA X [a] ta) (hs:starEach [a] X.env=[(false,eval a X.env)]:=by rfl) :
  PI X (.Tuple elts x1 tp) (.Call (.Name "enumerate" p) [a] [] pos) (iEnum X.K ta):=by
 intro pins s σ H R I h
 refine Call_ (cY' I hg hm boot_enumerate (PyProof.Rows.callWith_type1 (thn (ha pos pins s σ H _ I h) λus s1 ⟨vs,H1,I1,r1,q1⟩=>?_) hs rfl))
 rcases q1 with ⟨l1,xs,e,h1,q⟩ | ⟨l1,xs,e,h1,q⟩
 ·subst e
  obtain ⟨u1,rfl,e1⟩:=r1.one
  cases e1
  exact k9' m7' (pi' _) I1 h1 q
 ·subst e
  obtain ⟨u1,rfl,e1⟩:=r1.one
  cases e1
  exact k9' m8' (pj' _) I1 h1 q
def numD:Nat->List D->List D
 | _,[]=>[]
 | n,d::ds=>.tup [.int n,d]::numD (n+1) ds
theorem eS':∀ {ds:List D}{n i:Nat}{d:D},(numD n ds)[i]?=some d->∃ x,ds[i]?=some x/\d=.tup [.int ((n+i:Nat):Int),x]
 | [],n,i,d,h=>by rw [numD] at h;simp at h
 | c::ds,n,0,d,h=>by rw [numD] at h;simp at h;exact ⟨c,rfl,h.symm⟩
 | c::ds,n,i+1,d,h=>by
  rw [numD] at h
  obtain ⟨x,e1,e2⟩:=eS' (i:=i) (by simpa using h)
  refine ⟨x,by simpa using e1,?_⟩
  rw [e2,show n+1+i=n+(i+1) from by omega]
theorem jo':∀ (ds:List D) (n:Nat),(numD n ds).length=ds.length
 | [],n=>by rw [numD]
 | c::ds,n=>by rw [numD,List.length_cons,List.length_cons,jo' ds]
def enumI (ds:List D):Option (List D):=match ds with
 | [.lst xs]=>some (numD 0 xs)
 | [.tup xs]=>some (numD 0 xs)
 | _=>none
theorem fZ' {K:PySem.W.Frag}{I:Hp}{rd:Hp->Addr->List V->Prop}{l:Addr}{xs:List V}{ds:List D} (mono:∀ {H a xs},Same I H->rd I a xs->rd H a xs) (h1:rd I l xs) (i1:IsA K I ds xs):Yields K I (numD 0 ds) (Ite rd l):=λi H s=>by
 refine ⟨λd hd=>?_,λhi=>⟨xs,mono s h1,?_⟩⟩
 ·obtain ⟨y,e1,rfl⟩:=eS' hd
  obtain ⟨x,f1,f2⟩:=i1.get e1
  refine ⟨⟨xs,x,mono s h1,f1⟩,λv H2 hy=>?_⟩
  obtain ⟨p,x',g1,g2,g3,g4⟩:=hy
  have k1:=g4 xs (mono s h1)
  rw [f1] at k1;cases k1
  refine .inr ⟨p,_,[.int i,x],rfl,g2,g1,g3,IsA.cons ?_ (IsA.cons f2 IsA.nil)⟩
  rw [Nat.zero_add]
  exact Is.int _
 ·rw [jo',i1.length] at hi
  exact hi
theorem jp' {elts:List Expr}{x1:Nat}{tp p:Pos}{t:M (List D)} (hg:Gl X "enumerate") (hm:X.mg "enumerate"=none) (ha:AD X B [a] t) (hs:starEach [a] X.env=[(false,eval a X.env)]:=by rfl) :
  ITD X B (.Tuple elts x1 tp) (.Call (.Name "enumerate" p) [a] [] pos) (fn1 enumI t):=PI.imp (pX' hg hm ha hs) λσ H R q=>by
 obtain ⟨G,I,Γ,ds,Γ',r,e1,k⟩:=q
 obtain ⟨d,Γ1,e2,e3⟩:=ae' e1
 obtain ⟨e4,rfl⟩:=ao' e3
 refine ⟨G,I,Γ,d,_,r,e2,λvs H1 I1 r1 g1 hd=>?_⟩
 unfold enumI at e4
 split at e4
 ·cases e4
  obtain ⟨x,rfl,hx⟩:=hd.one
  obtain ⟨l1,xs,rfl,h1,h2⟩:=aB' hx
  exact .inl ⟨l1,xs,rfl,(Same.rdK r1.iH h1).sq,k _ _ _ r1 g1 (fZ' (λs h=>by rcases h with h | h;exact .inl (Same.rd s h);exact .inr h) h1.sq h2)⟩
 ·cases e4
  obtain ⟨x,rfl,hx⟩:=hd.one
  obtain ⟨l1,xs,rfl,h1,h2⟩:=as' hx
  exact .inr ⟨l1,xs,rfl,Same.sqT r1.iH h1,k _ _ _ r1 g1 (fZ' (λs h=>Same.sqT s h) h1 h2)⟩
 ·cases e4
def blsD:List D->Option (List Bool)
 | []=>some []
 | .bl b::ds=>match blsD ds with
  | some bs=>some (b::bs)
  | none=>none
 | _=>none
theorem jq':∀ {ds:List D}{bs:List Bool},blsD ds=some bs->ds=bs.map .bl
 | [],bs,h=>by rw [blsD] at h;cases h;rfl
 | .bl b::ds,bs,h=>by
  rw [blsD] at h
  cases e:blsD ds with
  | none=>rw [e] at h;cases h
  | some cs=>rw [e] at h;cases h;rw [jq' e];rfl
 | .non::_,_,h=>by cases h
 | .int _::_,_,h=>by cases h
 | .str _::_,_,h=>by cases h
 | .tup _::_,_,h=>by cases h
 | .lst _::_,_,h=>by cases h
theorem jr' {K:PySem.W.Frag}{I:Hp}:∀ {bs:List Bool}{xs:List V},IsA K I (bs.map .bl) xs->xs=bs.map .bl
 | [],xs,h=>h.nil_inv
 | b::bs,xs,h=>by
  obtain ⟨x,r,rfl,h1,h2⟩:=h.cons_inv
  rw [a3' h1,jr' h2];rfl
theorem la':∀ {bs:List Bool}{us:List Value},Vals (bs.map .bl) us->us=bs.map .bool
 | [],us,h=>by cases h;rfl
 | b::bs,us,h=>by
  cases h with
  | cons r t=>rw [la' t];cases r;rfl
theorem nc' (bs:List Bool):(List.range bs.length).all (λi=>bs.getD i true)=bs.all id:=by
 induction bs with
 | nil=>rfl
 | cons b bs ih =>
  rw [List.length_cons,List.range_succ_eq_map,List.all_cons,List.all_map,List.all_cons]
  congr 1
theorem ne' (hc:X.calm=true):CallR X (.builtin "all") (λxs H Q=>∃ (p:Addr) (bs:List Bool),xs=[.ref p]/\SqL X.K H p (bs.map .bl)/\Q (.bl (bs.all id)) H):=by
 intro pins s σ H xs us Q I r h
 obtain ⟨p,bs,rfl,hq,q⟩:=h
 obtain ⟨u,rfl,ru⟩:=vals1 r
 cases ru
 obtain ⟨its,rv,t,hz⟩:=I.list hq
 have:=la' rv
 subst this
 have lt:p < s.heap.objs.size:=by obtain ⟨_,e,_⟩:=t.isList;exact Heap.lt_size e
 refine call_all_walk (wpAny_pyIter_list t.isList ?_)
 refine ⟨s.heap.objs.size,_,_,_,_,_,λi=>bs.getD i true,rfl,Walks.list (A:=X.A.in1) (I.ok.hd hc) s.heap.objs.size p (Nat.ne_of_lt lt) _,⟨⟨_,Heap.get?_push_size _ rfl,rfl,rfl⟩,t.isList.push _⟩,?_,?_⟩
 ·intro i v s' Q' E' hv hQ
  have hv':(bs.map Value.bool)[i]?=some v:=by simpa using hv
  obtain ⟨b,e1,rfl⟩:=getMap hv'
  have hQ:Q' (bs.getD i true) s':=hQ
  rw [List.getD_eq_getElem?_getD,e1] at hQ
  exact wpAny_truthy_bool hQ
 ·intro h' tk kk
  have e1:(bs.map Value.bool).toArray.size=bs.length:=by simp
  rw [e1,nc']
  refine ⟨.bl (bs.all id),H,I.kept λb o e=>kk b o (by simp only [List.mem_singleton];exact Nat.ne_of_lt (Heap.lt_size e)) (Heap.get?_push_of_some _ e),rfl,q⟩
def allF (ds:List D):Option D:=match ds with
 | [.lst xs]=>match blsD xs with
  | some bs=>some (.bl (bs.all id))
  | none=>none
 | _=>none
theorem js' {p:Pos}{t:M (List D)} (hc:X.calm=true) (hg:Gl X "all") (hm:X.mg "all"=none) (ha:AD X B [e] t) (he:starEach [e] X.env=(false,eval e X.env)::starEach [] X.env:=by rfl) (hpl:(backTo pos (starEach [] X.env)).any (·.1)=false:=by rfl) :
  ED X B (.Call (.Name "all" p) [e] [] pos) (fn1 allF t):=d8' (ne' hc) (λds d e B G I H σ Γ xs Q r h k=>by
 unfold allF at e
 split at e
 ·split at e
  ·rename_i bs eb
   cases e
   have:=jq' eb
   subst this
   obtain ⟨x,rfl,hx⟩:=h.one
   obtain ⟨q,zs,rfl,h3,h4⟩:=aB' hx
   have:=jr' h4
   subst this
   exact ⟨q,bs,rfl,(Same.rdK r.iH h3).sq,k.now r (Is.bl _)⟩
  ·cases e
 ·cases e) hg hm boot_all ha (by decide) (by decide) he hpl
def reprF (ds:List D):Option D:=match ds with
 | [.bl b]=>some (.str (if b then "True" else "False"))
 | _=>none
end
end DL
namespace DL
open PySem PySem.Spec PyProof.Rows L2
theorem CompScope.of {osc sc:Scope}{N N':List Str}{m:Nat}
  (h:decide (sc.kind=.function/\(∀ y∈sc.names,y.2≠.cell)/\(∀ y∈sc.names,y.2=.local->sc.names.lookup y.1=some .local)/\(∀ y∈sc.names,y.2=.free->osc.names.lookup y.1=some .cell\/osc.names.lookup y.1=some .free)/\N'.Nodup/\N'.length=m+N.length ∧
   (∀ p∈(N'.drop m).zip N,((relab sc osc).names.lookup p.1=none)\/(p.1=p.2/\(relab sc osc).names.lookup p.1≠some .local)))=true):CompScope osc sc N N' m:=by
 obtain ⟨h1,h2,h3,h4,h5,h6,h7⟩:=of_decide_eq_true h
 exact ⟨h1,h2,h3,h4,h5,h6,h7⟩
theorem eI' {P:Program}{w:World}{K:PySem.W.Frag}{mg:Str->Option Value}{base:Heap}{k:Nat}{f:Addr}{fd:FuncData}{ps:List Str}:FnOk P w K mg base CX0 k f fd ps (spD K λ_=>none):=by
 have no:∀ vs H Q E,¬ spD K (λ_=>none) vs H Q E:=λvs H Q E h=>by
  obtain ⟨_,_,_,_,_,_,_,h,_⟩:=h
  cases h
 exact ⟨λvs H Q E h=>absurd h (no vs H Q E),λA outer s H args us vs Q E _ _ _ _ h=>absurd h (no vs H Q E)⟩
theorem rp' {K:PySem.W.Frag}{H:Hp}{a:Addr}{ns:List Int}{g:List R->Option (R×List R)} (hrd:RdK K H a (ns.map V.int))
  (hg:∃ rs,g [.val (.lst (ns.map D.int))]=some (.val (.bl true),rs)):spD K g [.ref a] H (λv _=>v=.bl true) λ_ _ _=>False:=by
 obtain ⟨rs,hg⟩:=hg
 have allI:∀ ns:List Int,IsA K H (ns.map D.int) (ns.map V.int):=λns=>by
  induction ns with
  | nil=>exact IsA.nil
  | cons n ns ih=>exact IsA.cons (Is.int n) ih
 refine ⟨H,H,[.val (.lst (ns.map D.int))],.val (.bl true),rs,?_,rfl,hg,λv H' I' r g' hv=>a3' (K:=K) (I:=I') hv⟩
 refine ⟨Same.refl _,Same.refl _,rfl,λi r e=>?_,λi j r r' v e e' m=>?_,λi ds e=>rfl⟩
 ·match i,e with
  | 0,e=>cases e;exact ⟨_,rfl,Is.lst hrd (allI ns)⟩
 ·match i,e with
  | 0,e=>cases e;cases m
theorem nf' {P:Program}{w:World}{K:PySem.W.Frag}{mg mb:Str->Option Value}{CX:CXT}{k:Nat}{fa a:Addr}{fd:FuncData}{x:Str}{sp:Sp}{s₁:Shared}{vs:List Value}{ns:List Int}
  (KX:K.In s₁.heap) (hns:s₁.heap.Ns mainGlobals mg) (hb:s₁.heap.Ns builtinsNs mb) (hbb:∀ x:Str,x ≠ "__name__"->mb x=bootBuiltins x) (hlim:s₁.heap.NoLimit) (hg:s₁.gens=#[])
  (ha:s₁.heap.get? a=some { cls:=.type "list", data:=.seq vs.toArray }) (hi:IntsAre vs ns) (hl:ns.length<=sizeLine) (hr:Room k callerA)
  (F:∀ base:Heap,K.In base->base.Ns mainGlobals mg->FnOk P w K mg base CX k fa fd [x] sp) (hbind:∀ (s:Shared) (u:Value),BindsTo s fd ⟨[u],[]⟩ [(x,u)])
  (hsp:∀ H:Hp,Only H->RdK K H a (ns.map V.int)->sp [.ref a] H (λv _=>v=.bl true) λ_ _ _=>False)
  (hCX:∀ H e s',CX [] H s₁ (λ_ _ _=>False) e s'->False) :
  codeAny (model P w) callerA (.call (.ref fa) ⟨[.ref a],[]⟩) (λr s'=>r=.ok (.ret (.bool true))/\OldK s₁.heap s'.heap/\s'.os=s₁.os/\AllBare s'.gens) s₁:=by
 have rv:=ik' hi
 have lenV:=hi.length
 -- from an abstract heap in which nothing but the script may be tracked
 have core:∀ H:Hp,Only H->RdK K H a (ns.map V.int)->HOk P w H s₁.heap->(∀ b,H b≠none->b=a)->(H a≠none->K.lookup a=none) →
   codeAny (model P w) callerA (.call (.ref fa) ⟨[.ref a],[]⟩) (λr s'=>r=.ok (.ret (.bool true))/\OldK s₁.heap s'.heap/\s'.os=s₁.os/\AllBare s'.gens) s₁:=by
  intro H hO hS hok hA hK
  have base_of:∀ {b:Addr}{o:Obj},s₁.heap.get? b=some o->H b=none->(hidT s₁.heap H).get? b=some o:=λe n=>od' e n
  have noA:∀ {b:Addr}{o:Obj}{es:Array DictEntry}{ep:Nat},s₁.heap.get? b=some o->o.data=.dict es ep->H b=none:=λ{b o es ep} e d=>by
   cases q:H b with
   | none=>rfl
   | some u =>
    have e':b=a:=hA b (by rw [q];simp)
    subst e'
    rw [ha] at e;cases e
    have d':Data.seq vs.toArray _=Data.dict es ep:=d
    cases d'
  have nsK:∀ {b:Addr}{m:Str->Option Value},s₁.heap.Ns b m->(hidT s₁.heap H).Ns b m:=λ{b m} ⟨o,es,ep,e,d,r⟩=>⟨o,es,ep,base_of e (noA e d),d,r⟩
  have hKb:K.In (hidT s₁.heap H):=λb o e=>base_of (KX b o e) (by
   cases q:H b with
   | none=>rfl
   | some u =>
    have e':b=a:=hA b (by rw [q];simp)
    subst e'
    rw [hK (by rw [q];simp)] at e;cases e)
  have hM:Mod K mg (hidT s₁.heap H):=⟨hKb,nsK hns,⟨mb,nsK hb,hbb⟩,let ⟨mc,h1,h2⟩:=hlim;⟨mc,nsK h1,h2⟩⟩
  have e0:Env0 P w K mg (hidT s₁.heap H) callerA [] s₁ H:=⟨rfl,hM,λb o e=>pr' e,Nat.le_of_eq (mB' _ _),trivial,λb hb=>absurd (show b∈([]:List Addr) from hb) (by simp),hok,.of_eq hg⟩
  refine codeAny_mono ((F _ hKb (nsK hns)).run callerA [] s₁ H ⟨[.ref a],[]⟩ [.ref a] [.ref a] _ _ hr e0 (hbind s₁ (.ref a)) (.cons rfl .nil) (hsp H hO hS)) λr s' h=>?_
  cases r with
  | error e=>exact (hCX H e s' h).elim
  | ok fl =>
   cases fl with
   | next=>exact False.elim h
   | brk=>exact False.elim h
   | cont=>exact False.elim h
   | ret u =>
    obtain ⟨v,H',os,bare,un,hok',r',q⟩:=h
    have q':v=.bl true:=q
    subst q'
    obtain rfl:u=Value.bool true:=r'
    refine ⟨rfl,OldK.of_keep λb o e=>?_,os,bare⟩
    cases q:H b with
    | none=>exact un.keep b o e q (by intro z;exact absurd (show b∈([]:List Addr) from z) (by simp)) (by simp)
    | some u =>
     rcases hO b with z | ⟨ob,xs,z⟩
     ·rw [q] at z;cases z
     ·have z2:=un.frzs b ob _ z
      obtain ⟨e1,_⟩:=hok b _ z
      obtain ⟨e2,_⟩:=hok' b _ z2
      rw [e] at e1;cases e1
      exact e2
 cases hk:K.lookup a with
 | some o =>
  -- the script is one of the module's own objects
  have e:=KX a o hk
  rw [ha] at e
  cases e
  refine core (λ_=>none) (λ_=>.inl rfl) (.inr ⟨vs,_,hk,rv,by rw [lenV];exact hl⟩) (λb u z=>by have z':(none:Option HO)=some u:=z;cases z') (λb z=>absurd rfl z) λz=>absurd rfl z
 | none =>
  refine core (λb=>if b=a then some (.frz { cls:=.type "list", data:=.seq vs.toArray } (.lst (ns.map V.int))) else none) (λb=>?_) (.inl (.inr ⟨{ cls:=.type "list", data:=.seq vs.toArray },if_pos rfl⟩)) (λb u z=>?_) (λb z=>?_) λ_=>hk
  ·by_cases hb:b=a
   ·exact .inr ⟨_,_,if_pos hb⟩
   ·exact .inl (if_neg hb)
  ·by_cases hb:b=a
   ·have z':=(if_pos hb).symm.trans z
    cases z'
    subst hb
    exact ⟨ha,by rw [List.length_map];exact hl,vs,_,rv,ha⟩
   ·have z':=(if_neg hb).symm.trans z
    cases z'
  ·by_cases hb:b=a
   ·exact hb
   ·exact absurd (if_neg hb) z
theorem oE' {l:PySem.W.OpenLaw}{n k:Nat}{q:Program}{loose:List Str}{XP:(Str->Option Value)->Heap->Prop}{YP:World->Heap->Prop}{d:DefRec}{K:Params->PySem.W.Frag}{CX:World->CXT}{sp:World->Sp}{x:Str}
  (hn:l.most=some n) (hn2:n<=sizeLine) (hdf:d.params.defaults=[]) (hr:Room k callerA)
  (hY:∀ (w:World) (h:Heap),YP w h->(K w.params).In h)
  (F:∀ (w:World) (mg:Str->Option Value) (fa:Addr) (h:Heap),(K w.params).In h->h.Ns mainGlobals mg->mg d.name=some (.ref fa) →
   ∃ fd:FuncData,(∀ (s:Shared) (u:Value),BindsTo s fd ⟨[u],[]⟩ [(x,u)]) ∧
    ∀ base:Heap,(K w.params).In base->base.Ns mainGlobals mg->FnOk l.prog w (K w.params) mg base (CX w) k fa fd [x] (sp w))
  (hsp:∀ (w:World) (H:Hp) (a:Addr) (ns:List Int),ns.length<=n->Only H->RdK (K w.params) H a (ns.map V.int)->sp w [.ref a] H (λv _=>v=.bl true) λ_ _ _=>False)
  (hCX:∀ (w:World) (H:Hp) (s:Shared) (e:Value) (s':Shared),CX w [] H s (λ_ _ _=>False) e s'->False) :
  PySem.W.WalkO q loose XP YP l.row.toRowW d [] (λf vs=>PySem.call f vs):=by
 refine Att.rV' hn hdf λw s₀ s₁ mg mb fa o pm cd doc a vs ns G Y ho hd hcd hmg hobj hints hlen hg=>?_
 have KX:=hY w _ Y
 obtain ⟨fd,hb,hF⟩:=F w mg fa _ KX G.T.g hmg
 exact nf' KX G.T.g G.T.b G.T.builtins G.T.nolimit hg hobj hints (Nat.le_trans hlen hn2) hr hF hb (λH hO hS=>hsp w H a ns hlen hO hS) λH e s'=>hCX w H s₁ e s'
end DL
namespace DL
open PySem PySem.Spec PyProof.Rows L2
def un1 {α:Type} (F:D->Option α) (g:M D):M α:=bnd g λd=>lft (F d)
inductive Ki where
 | iT | sT | bT | tT | lT
def Ki.nm:Ki->String
 | .iT => "int"
 | .sT => "str"
 | .bT => "bool"
 | .tT => "tuple"
 | .lT => "list"
def isiB:Ki->D->Bool
 | .iT,.int _=>true
 | .iT,.bl _=>true
 | .sT,.str _=>true
 | .bT,.bl _=>true
 | .tT,.tup _=>true
 | .lT,.lst _=>true
 | _,_=>false
def isiF (k:Ki) (d:D):Option D:=some (.bl (isiB k d))
section
variable {X:Cx}{B:BB}{e:Expr}{ga:M D}{pos:Pos}
theorem oF' {k:Ki}{h:Heap}{a:Addr}{its:Array Value}{prog:Program}{w:World}{A:Around}{E:Value->Shared->Prop}{s:Shared}{Q:Value->Shared->Prop}{ds:List D} (hl:s.heap.IsList a its) (q:∀ t,Q (.bool (isiB k (.lst ds))) { s with toks:=t }):wpAny (model prog w) A (call (.builtin "isinstance") [.ref a,.type k.nm]) Q E s:=by
 cases k
 ·exact PySem.IsiPair.isList_int hl (λ_ _ z=>z) (q _)
 ·exact PySem.IsiPair.isList_str hl (λ_ _ z=>z) (q _)
 ·exact PySem.IsiPair.isList_bool hl (λ_ _ z=>z) (q _)
 ·exact PySem.IsiPair.isList_tuple hl (λ_ _ z=>z) (q _)
 ·exact PySem.IsiPair.isList_list hl (λ_ _ z=>z) (q _)
theorem ng' {k:Ki}{h:Heap}{a:Addr}{its:Array Value}{prog:Program}{w:World}{A:Around}{E:Value->Shared->Prop}{s:Shared}{Q:Value->Shared->Prop}{ds:List D} (hl:s.heap.IsTuple a its) (q:∀ t,Q (.bool (isiB k (.tup ds))) { s with toks:=t }):wpAny (model prog w) A (call (.builtin "isinstance") [.ref a,.type k.nm]) Q E s:=by
 cases k
 ·exact PySem.IsiPair.isTuple_int hl (λ_ _ z=>z) (q _)
 ·exact PySem.IsiPair.isTuple_str hl (λ_ _ z=>z) (q _)
 ·exact PySem.IsiPair.isTuple_bool hl (λ_ _ z=>z) (q _)
 ·exact PySem.IsiPair.isTuple_tuple hl (λ_ _ z=>z) (q _)
 ·exact PySem.IsiPair.isTuple_list hl (λ_ _ z=>z) (q _)
theorem nh' (k:Ki):CallR X (.builtin "isinstance") (λxs H Q=>∃ d x,xs=[x,.ty k.nm]/\Is X.K H d x/\Q (.bl (isiB k d)) H):=by
 intro pins s σ H xs us Q I r h
 obtain ⟨d,x,rfl,hd,q⟩:=h
 cases r with
 | cons rx r =>
  cases r with
  | cons rt r =>
   cases r
   cases rt
   have fin:∀ t,EP X pins σ Q (.bool (isiB k d)) { s with toks:=t }:=λt=>⟨.bl _,H,I.tok _,rfl,q⟩
   cases d with
   | non =>
    cases (show x=.non from by rw [Is] at hd;exact hd)
    cases rx
    cases k
    ·exact PySem.IsiPair.NoneType_int (fin _)
    ·exact PySem.IsiPair.NoneType_str (fin _)
    ·exact PySem.IsiPair.NoneType_bool (fin _)
    ·exact PySem.IsiPair.NoneType_tuple (fin _)
    ·exact PySem.IsiPair.NoneType_list (fin _)
   | bl b =>
    cases a3' hd
    cases rx
    cases k
    ·exact PySem.IsiPair.bool_int (fin _)
    ·exact PySem.IsiPair.bool_str (fin _)
    ·exact PySem.IsiPair.bool_bool (fin _)
    ·exact PySem.IsiPair.bool_tuple (fin _)
    ·exact PySem.IsiPair.bool_list (fin _)
   | int i =>
    cases am' hd
    obtain ⟨t,rfl⟩:=rx
    cases k
    ·exact PySem.IsiPair.int_int (fin _)
    ·exact PySem.IsiPair.int_str (fin _)
    ·exact PySem.IsiPair.int_bool (fin _)
    ·exact PySem.IsiPair.int_tuple (fin _)
    ·exact PySem.IsiPair.int_list (fin _)
   | str y =>
    cases (show x=.str y from by rw [Is] at hd;exact hd)
    obtain ⟨t,rfl⟩:=rx
    cases k
    ·exact PySem.IsiPair.str_int (fin _)
    ·exact PySem.IsiPair.str_str (fin _)
    ·exact PySem.IsiPair.str_bool (fin _)
    ·exact PySem.IsiPair.str_tuple (fin _)
    ·exact PySem.IsiPair.str_list (fin _)
   | tup ds =>
    obtain ⟨a,xs,rfl,h1,h2⟩:=as' hd
    cases rx
    obtain ⟨its,_,t,_⟩:=I.tuple h1
    exact ng' (h:=s.heap) t fin
   | lst ds =>
    obtain ⟨a,xs,rfl,h1,h2⟩:=aB' hd
    cases rx
    obtain ⟨its,_,t,_⟩:=I.list h1.sq
    exact oF' (h:=s.heap) t.isList fin
theorem sg' {k:Ki}:∀ σ H Q,tD X.K B (un1 (isiF k) ga) σ H Q->tCB (λxs H Q=>∃ d x,xs=[x,.ty k.nm]/\Is X.K H d x/\Q (.bl (isiB k d)) H) (tCons (tD X.K B ga) (tCons (tC (.ty k.nm)) tNil)) σ H Q:=λσ H Q q=>by
 obtain ⟨G,I,Γ,d,Γ',r,e1,k⟩:=q
 obtain ⟨d1,Γ1,e2,e3⟩:=ae' e1
 obtain ⟨e4,rfl⟩:=ao' e3
 cases e4
 exact ⟨G,I,Γ,d1,_,r,e2,λv H1 I1 r1 g1 h1=>⟨d1,v,rfl,h1.mono r1.iH,k _ _ _ r1 g1 (Is.bl _)⟩⟩
theorem fl' {k:Ki}{t:Str}{p p2:Pos} (hv:bootBuiltins t=some (.type k.nm)) (hn:t ≠ "__name__") (hd:(t == ("__debug__":Str))=false) (hg:Gl X "isinstance") (hm:X.mg "isinstance"=none) (hg2:Gl X t) (hm2:X.mg t=none) (ha:ED X B e ga)
  (he:starEach [e,.Name t p2] X.env=(false,eval e X.env)::starEach [.Name t p2] X.env:=by rfl) (he2:starEach [.Name t p2] X.env=(false,eval (.Name t p2) X.env)::starEach [] X.env:=by rfl) (hpl:(backTo pos (starEach [.Name t p2] X.env)).any (·.1)=false:=by rfl) :
  ED X B (.Call (.Name "isinstance" p) [e,.Name t p2] [] pos) (un1 (isiF k) ga) :=
 PE.imp (eN' (nh' k) hg hm boot_isinstance (d1' ha (d1' (pt' (v:=.ty k.nm) hg2 hm2 hv rfl hn hd) gB' he2) he) (by decide) (by decide) he hpl) sg'
theorem dT' {p p2:Pos} (hg:Gl X "isinstance") (hm:X.mg "isinstance"=none) (hg2:Gl X "int") (hm2:X.mg "int"=none) (ha:ED X B e ga)
  (he:starEach [e,.Name "int" p2] X.env=(false,eval e X.env)::starEach [.Name "int" p2] X.env:=by rfl) (he2:starEach [.Name "int" p2] X.env=(false,eval (.Name "int" p2) X.env)::starEach [] X.env:=by rfl) (hpl:(backTo pos (starEach [.Name "int" p2] X.env)).any (·.1)=false:=by rfl) :
  ED X B (.Call (.Name "isinstance" p) [e,.Name "int" p2] [] pos) (un1 (isiF .iT) ga):=fl' (k:=.iT) boot_int (by decide) (by decide) hg hm hg2 hm2 ha he he2 hpl
theorem gK' {p p2:Pos} (hg:Gl X "isinstance") (hm:X.mg "isinstance"=none) (hg2:Gl X "str") (hm2:X.mg "str"=none) (ha:ED X B e ga)
  (he:starEach [e,.Name "str" p2] X.env=(false,eval e X.env)::starEach [.Name "str" p2] X.env:=by rfl) (he2:starEach [.Name "str" p2] X.env=(false,eval (.Name "str" p2) X.env)::starEach [] X.env:=by rfl) (hpl:(backTo pos (starEach [.Name "str" p2] X.env)).any (·.1)=false:=by rfl) :
  ED X B (.Call (.Name "isinstance" p) [e,.Name "str" p2] [] pos) (un1 (isiF .sT) ga):=fl' (k:=.sT) boot_str (by decide) (by decide) hg hm hg2 hm2 ha he he2 hpl
theorem b2' {p p2:Pos} (hg:Gl X "isinstance") (hm:X.mg "isinstance"=none) (hg2:Gl X "bool") (hm2:X.mg "bool"=none) (ha:ED X B e ga)
  (he:starEach [e,.Name "bool" p2] X.env=(false,eval e X.env)::starEach [.Name "bool" p2] X.env:=by rfl) (he2:starEach [.Name "bool" p2] X.env=(false,eval (.Name "bool" p2) X.env)::starEach [] X.env:=by rfl) (hpl:(backTo pos (starEach [.Name "bool" p2] X.env)).any (·.1)=false:=by rfl) :
  ED X B (.Call (.Name "isinstance" p) [e,.Name "bool" p2] [] pos) (un1 (isiF .bT) ga):=fl' (k:=.bT) boot_bool (by decide) (by decide) hg hm hg2 hm2 ha he he2 hpl
theorem a8' {p p2:Pos} (hg:Gl X "isinstance") (hm:X.mg "isinstance"=none) (hg2:Gl X "tuple") (hm2:X.mg "tuple"=none) (ha:ED X B e ga)
  (he:starEach [e,.Name "tuple" p2] X.env=(false,eval e X.env)::starEach [.Name "tuple" p2] X.env:=by rfl) (he2:starEach [.Name "tuple" p2] X.env=(false,eval (.Name "tuple" p2) X.env)::starEach [] X.env:=by rfl) (hpl:(backTo pos (starEach [.Name "tuple" p2] X.env)).any (·.1)=false:=by rfl) :
  ED X B (.Call (.Name "isinstance" p) [e,.Name "tuple" p2] [] pos) (un1 (isiF .tT) ga):=fl' (k:=.tT) boot_tuple (by decide) (by decide) hg hm hg2 hm2 ha he he2 hpl
theorem f0' {p p2:Pos} (hg:Gl X "isinstance") (hm:X.mg "isinstance"=none) (hg2:Gl X "list") (hm2:X.mg "list"=none) (ha:ED X B e ga)
  (he:starEach [e,.Name "list" p2] X.env=(false,eval e X.env)::starEach [.Name "list" p2] X.env:=by rfl) (he2:starEach [.Name "list" p2] X.env=(false,eval (.Name "list" p2) X.env)::starEach [] X.env:=by rfl) (hpl:(backTo pos (starEach [.Name "list" p2] X.env)).any (·.1)=false:=by rfl) :
  ED X B (.Call (.Name "isinstance" p) [e,.Name "list" p2] [] pos) (un1 (isiF .lT) ga):=fl' (k:=.lT) boot_list (by decide) (by decide) hg hm hg2 hm2 ha he he2 hpl
def negI (d:D):Option D:=match d with
 | .int i=>some (.int (-i))
 | _=>none
theorem sh':∀ σ H Q,tD X.K B (un1 negI ga) σ H Q->tUn (rU λi=>.int (-i)) (tD X.K B ga) σ H Q:=λσ H Q q=>by
 obtain ⟨G,I,Γ,d,Γ',r,e1,k⟩:=q
 obtain ⟨d1,Γ1,e2,e3⟩:=ae' e1
 obtain ⟨e4,rfl⟩:=ao' e3
 unfold negI at e4
 split at e4
 ·cases e4
  exact ⟨G,I,Γ,_,_,r,e2,λv H1 I1 r1 g1 h1=>⟨_,am' h1,k _ _ _ r1 g1 (Is.int _)⟩⟩
 ·cases e4
theorem dB' (ha:ED X B e ga):ED X B (.UnaryOp .USub e pos) (un1 negI ga):=PE.imp (r3' qW' ha) sh'
end
end DL
namespace PySem.SeqAt
def RcLtAt (A:Around) (s:Shared) (y x:Value) (b:Bool):Prop :=
 ∀ (prog:Program) (w:World) (E:Value->Shared->Prop) (Q:Value->Shared->Prop),Q (.bool b) s->wpAny (model prog w) A (richCompare .Lt y x) Q E s
def ltFrom (e lt:Nat->Bool) (d:Bool):List Nat->Bool
 | []=>d
 | i::r=>if e i then ltFrom e lt d r else lt i
theorem lV' (u v:Addr) (us vs:Array Value) (p q:Nat) (du dv:Option Addr) (ku kv:Array (Option Value)) (e lt:Nat->Bool) :
  Meets (Builtin.«tuple.__lt__» ⟨[.ref u,.ref v],[]⟩) (λA out s=>(s.heap.get? u=some ⟨.type "tuple", du,.seq us p,ku⟩/\s.heap.get? v=some ⟨.type "tuple", dv,.seq vs q,kv⟩) ∧
    (∀ j (h1:j < us.size) (h2:j < vs.size),EqAt A.in1 s us[j] vs[j] (e j)/\(e j=false->RcLtAt A.in1 s us[j] vs[j] (lt j)))/\out (.ok (.ret (.bool (ltFrom e lt (decide (us.size < vs.size)) (List.range (min us.size vs.size)))))) s) :=
 .of_wp λprog w A out s given=>by
  obtain ⟨hp,gn,dw,tk,os⟩:=s
  obtain ⟨⟨gu,gv⟩,pair,told⟩:=given
  obtain ⟨says,hs⟩:∃ says:Nat->Prop,says=λi=>out (.ok (.ret (.bool (ltFrom e lt (decide (us.size < vs.size)) ((List.range (min us.size vs.size)).drop i))))) ⟨hp,gn,dw,tk,os⟩:=⟨_,rfl⟩
  have both:=AutoSeq1.sub_tuple_tuple
  have len:(us.toList.zip vs.toList).length=min us.size vs.size:=by rw [List.length_zip];rfl
  wp_walk using AutoSeq1.wpAny_loadPart' gu,AutoSeq1.wpAny_loadPart' gv,wpAny_forIn_list _ (λleft got now=>got.1=none/\now=⟨hp,gn,dw,tk,os⟩/\∃ i,left=(us.toList.zip vs.toList).drop i/\says i) _
  case turn =>
   rintro ⟨y,x⟩ left got now ⟨none',rfl,i,at',say⟩
   have here:i < min us.size vs.size:=by
    rw [← len]
    exact Nat.lt_of_not_le λno=>by rw [List.drop_eq_nil_of_le no] at at';exact List.cons_ne_nil _ _ at'
   have k1:i < us.size:=by omega
   have k2:i < vs.size:=by omega
   have cut:=List.drop_eq_getElem_cons (l:=us.toList.zip vs.toList) (i:=i) (len▸here)
   rw [← at',List.getElem_zip] at cut
   obtain ⟨yx,tail⟩:=List.cons.inj cut
   obtain ⟨rfl,rfl⟩:=Prod.mk.inj yx
   rw [hs] at say
   have cut2:=List.drop_eq_getElem_cons (l:=List.range (min us.size vs.size)) (i:=i) (by simpa using here)
   rw [List.getElem_range] at cut2
   rw [cut2,ltFrom] at say
   have two:=pair i k1 k2
   refine wpAny_bind (two.1 prog w _ _ ?_)
   cases like:e i with
   | true =>
    rw [like,if_pos rfl] at say
    wp_walk
    exact ⟨rfl,rfl,i+1,tail,by rw [hs];exact say⟩
   | false =>
    rw [like,if_neg Bool.false_ne_true] at say
    refine wpAny_bind (wpAny_rule (wpAny_bind (two.2 like prog w _ _ ?_)))
    wp_walk
    exact ⟨_,rfl,say⟩
  case fin =>
   rintro ⟨got,_⟩ now ⟨none',rfl,i,at',say⟩
   cases none'
   have past:min us.size vs.size<=i:=by
    rw [← len]
    exact List.drop_eq_nil_iff.mp at'.symm
   rw [hs] at say
   rw [List.drop_eq_nil_of_le (by simpa using past),ltFrom] at say
   wp_walk
   exact ⟨_,rfl,by simpa [Builtin.Tuple.tupleCompareSizes] using say⟩
  case h=>exact ⟨rfl,rfl,0,rfl,by rw [hs];exact told⟩
theorem RcLtAt.tuples {A:Around}{s:Shared}{u v:Addr}{us vs:Array Value}{e lt:Nat->Bool} (hu:s.heap.IsTuple u us) (hv:s.heap.IsTuple v vs) (room:A.units < cLine)
  (pair:∀ j (h1:j < us.size) (h2:j < vs.size),EqAt A.in1 s us[j] vs[j] (e j)/\(e j=false->RcLtAt A.in1 s us[j] vs[j] (lt j))):RcLtAt A s (.ref u) (.ref v) (ltFrom e lt (decide (us.size < vs.size)) (List.range (min us.size vs.size))):=by
 obtain ⟨⟨_,du,_,ku⟩,gu,rfl,p,rfl⟩:=hu
 obtain ⟨⟨_,dv,_,kv⟩,gv,rfl,q,rfl⟩:=hv
 exact λprog w E Q h=>richCompare_meets_room (op:=.Lt) ⟨_,gu,rfl⟩ ⟨_,gv,rfl⟩ F.slot_tuple_lt F.entry_tuple_lt (F.args_tuple_lt_2 _ _) (lV' u v us vs p q du dv ku kv e lt) ⟨⟨gu,gv⟩,pair,Value.noConfusion,h⟩ room
theorem RcLtAt.int_int {A:Around}{s:Shared} (a:Int) (t:Tok) (b:Int) (u:Tok):RcLtAt A s (.int a t) (.int b u) (decide (a < b)):=λprog w E Q h=>PyProof.Rows.lt_int h
end PySem.SeqAt
namespace DL
open PySem PySem.Spec PyProof.Rows L2
section
variable {X:Cx}{B:BB}{a b c e:Expr}{es:List Expr}{pos:Pos}
theorem eJ':∀ {xs:List V}{us:List Value},xs.length=us.length->(∀ (i:Nat) x u,xs[i]?=some x->us[i]?=some u->RelV x u)->Vals xs us
 | [],[],_,_=>.nil
 | [],_::_,h,_=>by cases h
 | _::_,[],h,_=>by cases h
 | x::xs,u::us,h,k=>.cons (k 0 x u rfl rfl) (eJ' (Nat.succ.inj h) λi y v e f=>k (i+1) y v e f)
end
section
variable {prog:Program}{w:World}{A:Around}{E:Value->Shared->Prop}{s:Shared}
end
section
variable {X:Cx}{B:BB}{a b c e:Expr}{es:List Expr}{pos:Pos}{kr:Nat}
open PySem.SeqAt in
end
end DL
namespace DL
open PySem PySem.W PyProof.Rows
structure Ord (lt:Nat->Nat->Bool):Prop where
 as:∀ a b,lt a b=true->lt b a=false
 tr:∀ a b c,lt b a=false->lt c b=false->lt c a=false
section
variable {n:Nat}{lt:Nat->Nat->Bool}{s:Shared}
def askIn (n:Nat) (lt:Nat->Nat->Bool):Nat->Nat->(Bool->Shared->Prop)->Shared->Prop:=λi j C s=>i < n/\j < n/\C (lt i j) s
def gt (p:Array Nat) (i:Nat):Nat:=p.getD i 0
def Pm (n:Nat) (p:Array Nat):Prop:=p.Perm (List.range n).toArray
def Dn (lt:Nat->Nat->Bool) (p:Array Nat) (m:Nat):Prop:=∀ i j,i < j->j < m->lt (gt p i) (gt p j)=false
def Up (lt:Nat->Nat->Bool) (p:Array Nat) (m:Nat):Prop:=∀ i j,i < j->j < m->lt (gt p j) (gt p i)=false
def Eqs (lt:Nat->Nat->Bool) (p:Array Nat) (a b:Nat):Prop:=∀ i j,a<=i->i < b->a<=j->j < b->lt (gt p i) (gt p j)=false
theorem Pm.size {p:Array Nat} (h:Pm n p):p.size=n:=by
 have:=h.size_eq
 simpa using this
theorem Pm.bd {p:Array Nat} (h:Pm n p) (pos:0 < n) (i:Nat):gt p i < n:=by
 unfold gt
 by_cases hi:i < p.size
 ·have:p[i]∈(List.range n).toArray:=h.mem_iff.mp (Array.getElem_mem hi)
  rw [Array.getD,dif_pos hi]
  simpa using this
 ·rw [Array.getD,dif_neg hi]
  exact pos
theorem gL' {p:Array Nat}{i:Nat}:gt p i=p[i]?.getD 0:=by
 unfold gt
 exact Array.getD_eq_getD_getElem? ..
theorem dC' {p:Array Nat}{i j:Nat} (hj:j<=p.size) (k:Nat):gt (kas_rev p i j) k=if i<=k/\k < j then gt p (i+j - 1 - k) else gt p k:=by
 rw [gL',gL',gL']
 unfold kas_rev
 rw [getElem?_mirror_all hj]
 split<;>rfl
theorem ni' {p:Array Nat}{src d:Nat} (hs:src < p.size) (hd:d<=src) (k:Nat):gt (bubble p src d) k=if k=src - d then gt p src else if src - d < k/\k<=src then gt p (k - 1) else gt p k:=by
 simp only [gL']
 rw [getElem?_bubble hs d hd]
 split
 ·rfl
 ·split<;>rfl
theorem Pm.rev {p:Array Nat} (h:Pm n p) (i j:Nat):Pm n (kas_rev p i j):=Array.Perm.trans (mirror_perm _ _ _ _) h
theorem eT' {α:Type}{cmp:Nat->Nat->(Bool->Shared->Prop)->Shared->Prop}{Q:α->Shared->Prop}{P:α->Prop} (hc:∀ i j C,i < n->j < n->C (lt i j) s->cmp i j C s) (hq:∀ a,P a->Q a s):∀ t:KasT α,t.kasWp (askIn n lt) (λa _=>P a) s->t.kasWp cmp Q s
 | .ret a,h=>hq a h
 | .ask i j k,⟨h1,h2,h3⟩=>hc i j _ h1 h2 (eT' hc hq (k (lt i j)) h3)
theorem fm' {α β:Type}{t:KasT α}{f:α->KasT β}{P:α->Prop}{Q:β->Prop} (h:t.kasWp (askIn n lt) (λa _=>P a) s) (k:∀ a,P a->(f a).kasWp (askIn n lt) (λb _=>Q b) s):(t.bind f).kasWp (askIn n lt) (λb _=>Q b) s:=by
 rw [KasT.kasWp_bind]
 exact eT' (λi j C h1 h2 h3=>⟨h1,h2,h3⟩) (λa ha=>k a ha) t h
variable (O:Ord lt) (two:2<=n)
include O
theorem Ord.irr (a:Nat):lt a a=false:=by
 cases h:lt a a with
 | false=>rfl
 | true=>rw [← h];exact O.as a a h
theorem Ord.lt_le {a b c:Nat} (h1:lt a b=true) (h2:lt c b=false):lt a c=true:=by
 cases h:lt a c with
 | true=>rfl
 | false =>
  -- c<=a,b<=c
  have:=O.tr b c a h2 h
  rw [this] at h1;cases h1
include two
theorem jt' {p:Array Nat} (hp:Pm n p):∀ (f m:Nat),1<=m->(kas_asc p f m).kasWp (askIn n lt) (λm' _=>m<=m'/\m'<=m+f/\(∀ k,m<=k->k < m'->lt (gt p k) (gt p (k - 1))=false)/\(m' < m+f->lt (gt p m') (gt p (m' - 1))=true)) s
 | 0,m,_=>by
  rw [kas_asc]
  exact ⟨Nat.le_refl _,Nat.le_refl _,λk h1 h2=>by omega,λh=>by omega⟩
 | f+1,m,hm=>by
  rw [kas_asc]
  refine ⟨hp.bd (by omega) m,hp.bd (by omega) (m - 1),?_⟩
  cases h:lt (p.getD m 0) (p.getD (m - 1) 0) with
  | true =>
   dsimp only;rw [if_pos rfl]
   exact ⟨Nat.le_refl _,by omega,λk h1 h2=>by omega,λ_=>h⟩
  | false =>
   dsimp only;rw [if_neg Bool.false_ne_true]
   refine eT' (λi j C h1 h2 h3=>⟨h1,h2,h3⟩) (λm' h'=>?_) _ (jt' hp f (m+1) (by omega))
   obtain ⟨a1,a2,a3,a4⟩:=h'
   refine ⟨by omega,by omega,λk h1 h2=>?_,λh'=>a4 (by omega)⟩
   by_cases z:k=m
   ·rw [z];exact h
   ·exact a3 k (by omega) h2
omit two in
theorem Up.of_steps {p:Array Nat}{m m':Nat} (hm:Up lt p m) (st:∀ k,m<=k->k < m'->1<=k->lt (gt p k) (gt p (k - 1))=false):Up lt p m':=by
 intro i j
 induction j with
 | zero=>intro h;omega
 | succ j ih =>
  intro hij hj
  by_cases z:j+1 < m
  ·exact hm i (j+1) hij z
  ·have s1:=st (j+1) (by omega) hj (by omega)
   rw [Nat.add_sub_cancel] at s1
   by_cases e:i=j
   ·rw [e];exact s1
   ·exact O.tr _ _ _ (ih (by omega) (by omega)) s1
omit two O in
theorem Dn.up {p:Array Nat}{m:Nat} (hm:m<=p.size) (h:Dn lt p m):Up lt (kas_rev p 0 m) m:=by
 intro i j hij hj
 rw [dC' hm,dC' hm,if_pos ⟨Nat.zero_le _,hj⟩,if_pos ⟨Nat.zero_le _,by omega⟩]
 exact h _ _ (by omega) (by omega)
omit two O in
theorem Dn.turn {p:Array Nat}{m a:Nat} (hm:m<=p.size) (h:Dn lt p m) (e:Eqs lt p a m):Dn lt (kas_rev p a m) m:=by
 intro i j hij hj
 rw [dC' hm,dC' hm]
 by_cases h1:a<=i
 ·rw [if_pos ⟨h1,by omega⟩,if_pos ⟨by omega,hj⟩]
  exact e _ _ (by omega) (by omega) (by omega) (by omega)
 ·rw [if_neg (by omega)]
  by_cases h2:a<=j
  ·rw [if_pos ⟨h2,hj⟩]
   exact h _ _ (by omega) (by omega)
  ·rw [if_neg (by omega)]
   exact h _ _ hij hj
omit two in
theorem Dn.next {p:Array Nat}{m:Nat} (h:Dn lt p m) (hm:1<=m) (st:lt (gt p (m - 1)) (gt p m)=false):Dn lt p (m+1):=by
 intro i j hij hj
 by_cases z:j < m
 ·exact h i j hij z
 ·have:j=m:=by omega
  subst this
  by_cases e:i=j - 1
  ·rw [e];exact st
  ·exact O.tr _ _ _ st (h i (j - 1) (by omega) (by omega))
theorem fQ':∀ (f:Nat) (p:Array Nat) (m q:Nat),Pm n p->1<=m->m+f<=n->q < m->Dn lt p m->Eqs lt p (m - (q+1)) m →
  (kas_desc f p m q).kasWp (askIn n lt) (λr _=>Pm n r.1/\1<=r.2.1/\r.2.1<=n/\r.2.2 < r.2.1/\Dn lt r.1 r.2.1/\Eqs lt r.1 (r.2.1 - (r.2.2+1)) r.2.1) s
 | 0,p,m,q,hp,h1,h2,h3,h4,h5=>by
  rw [kas_desc]
  exact ⟨hp,h1,(by show m<=n;omega),h3,h4,h5⟩
 | f+1,p,m,q,hp,h1,h2,h3,h4,h5=>by
  rw [kas_desc]
  have one:∀ (p':Array Nat),Pm n p'->Eqs lt p' (m+1 - (0+1)) (m+1):=λp' _ i j a b c d=>by
   have:i=m:=by omega
   have:j=m:=by omega
   subst i;subst j
   exact O.irr _
  refine ⟨hp.bd (by omega) m,hp.bd (by omega) (m - 1),?_⟩
  cases h:lt (p.getD m 0) (p.getD (m - 1) 0) with
  | true =>
   dsimp only;rw [if_pos rfl]
   have st:lt (gt p (m - 1)) (gt p m)=false:=O.as _ _ h
   split
   ·have sz:m<=p.size:=by rw [hp.size];omega
    refine fQ' f _ (m+1) 0 (hp.rev _ _) (by omega) (by omega) (by omega) (Dn.next O (h4.turn sz h5) h1 ?_) (one _ (hp.rev _ _))
    rw [dC' sz,dC' sz,if_pos ⟨by omega,by omega⟩,if_neg (by omega)]
    refine O.tr _ _ _ st ?_
    exact h5 _ _ (by omega) (by omega) (by omega) (by omega)
   ·exact fQ' f _ (m+1) 0 hp (by omega) (by omega) (by omega) (Dn.next O h4 h1 st) (one _ hp)
  | false =>
   dsimp only;rw [if_neg Bool.false_ne_true]
   refine ⟨hp.bd (by omega) (m - 1),hp.bd (by omega) m,?_⟩
   cases h':lt (p.getD (m - 1) 0) (p.getD m 0) with
   | true =>
    dsimp only;rw [if_pos rfl]
    exact ⟨hp,h1,(by show m<=n;omega),h3,h4,h5⟩
   | false =>
    dsimp only;rw [if_neg Bool.false_ne_true]
    refine fQ' f p (m+1) (q+1) hp (by omega) (by omega) (by omega) (Dn.next O h4 h1 h') λi j a b c d=>?_
    have up:∀ i,m - (q+1)<=i->i < m->lt (gt p i) (gt p m)=false:=λi x y=>O.tr _ _ _ h' (h5 i (m - 1) x y (by omega) (by omega))
    have dn:∀ i,m - (q+1)<=i->i < m->lt (gt p m) (gt p i)=false:=λi x y=>O.tr _ _ _ (h5 (m - 1) i (by omega) (by omega) x y) h
    by_cases zi:i=m
    ·by_cases zj:j=m
     ·rw [zi,zj];exact O.irr _
     ·rw [zi];exact dn j (by omega) (by omega)
    ·by_cases zj:j=m
     ·rw [zj];exact up i (by omega) (by omega)
     ·exact h5 i j (by omega) (by omega) (by omega) (by omega)
theorem lb' {p:Array Nat}{m:Nat} (hp:Pm n p) (h1:1<=m) (h2:m<=n) (h:Dn lt p m):(kas_tail3 m n p).kasWp (askIn n lt) (λr _=>1<=r.1/\r.1<=n/\Pm n r.2/\Up lt r.2 r.1) s:=by
 unfold kas_tail3
 refine fm' (jt' O two (hp.rev 0 m) (n - m) m h1) λm' ⟨a1,a2,a3,_⟩=>?_
 have up:=h.up (by rw [hp.size];exact h2)
 exact ⟨by omega,by omega,hp.rev 0 m,Up.of_steps O up λk x y _=>a3 k x y⟩
theorem f1' {p:Array Nat}{m:Nat} (hp:Pm n p) (h1:1<=m) (h2:m < n) (h:Dn lt p (m+1)):(kas_descPart m n p).kasWp (askIn n lt) (λr _=>1<=r.1/\r.1<=n/\Pm n r.2/\Up lt r.2 r.1) s:=by
 unfold kas_descPart
 refine fm' (fQ' O two (n - (m+1)) p (m+1) 0 hp (by omega) (by omega) (by omega) h λi j a b c d=>?_) λr ⟨b1,b2,b3,b4,b5,b6⟩=>?_
 ·have:i=m:=by omega
  have:j=m:=by omega
  subst i;subst j
  exact O.irr _
 ·split
  ·exact lb' O two (b1.rev _ _) b2 b3 (b5.turn (by rw [b1.size];exact b3) b6)
  ·exact lb' O two b1 b2 b3 b5
theorem oG' {p:Array Nat} (hp:Pm n p):(kas_count n p).kasWp (askIn n lt) (λr _=>1<=r.1/\r.1<=n/\Pm n r.2/\Up lt r.2 r.1) s:=by
 unfold kas_count
 refine fm' (jt' O two hp (n - 1) 1 (Nat.le_refl _)) λm ⟨a1,a2,a3,a4⟩=>?_
 have up1:Up lt p m:=Up.of_steps O (m:=1) (λi j x y=>by omega) λk x y z=>a3 k x y
 split
 ·exact ⟨a1,by omega,hp,up1⟩
 ·rename_i ne
  have ne:m≠n:=by simpa using ne
  have last:=a4 (by omega)
  split
  ·refine ⟨hp.bd (by omega) 0,hp.bd (by omega) (m - 1),?_⟩
   cases h:lt (p.getD 0 0) (p.getD (m - 1) 0) with
   | true =>
    dsimp only;rw [if_pos rfl]
    exact ⟨a1,by omega,hp,up1⟩
   | false =>
    dsimp only;rw [if_neg Bool.false_ne_true]
    have all:Eqs lt p 0 m:=λi j x1 x2 y1 y2=>by
     -- the first is not less than the last,and they rise
     have l0:∀ i,i < m->lt (gt p i) (gt p 0)=false:=λi x=>by
      by_cases z:i=0
      ·rw [z];exact O.irr _
      ·exact up1 0 i (by omega) x
     have lz:∀ j,j < m->lt (gt p (m - 1)) (gt p j)=false:=λj x=>by
      by_cases z:j=m - 1
      ·rw [z];exact O.irr _
      ·exact up1 j (m - 1) (by omega) (by omega)
     -- i against j: i<=last<=first<=j,whichever
     have f1:lt (gt p i) (gt p (m - 1))=false:=O.tr _ _ _ h (l0 i x2)
     exact O.tr _ _ _ (lz j y2) f1
    have sz:m<=p.size:=by rw [hp.size];omega
    have all2:Dn lt (kas_rev p 0 m) m:=Dn.turn sz (λi j x y=>all i j (Nat.zero_le _) (by omega) (Nat.zero_le _) y) all
    refine f1' O two (hp.rev _ _) a1 (by omega) (Dn.next O all2 a1 ?_)
    rw [dC' sz,dC' sz,if_pos ⟨Nat.zero_le _,by omega⟩,if_neg (by omega)]
    refine O.tr _ _ _ (O.as _ _ last) ?_
    exact all _ _ (Nat.zero_le _) (by omega) (Nat.zero_le _) (by omega)
  ·have:m=1:=by omega
   subst this
   exact f1' O two hp (Nat.le_refl _) (by omega) (Dn.next O (λi j x y=>by omega) (Nat.le_refl _) (O.as _ _ last))
theorem ga' {p:Array Nat}{k:Nat} (hp:Pm n p) (hk:k < n) (up:Up lt p k):∀ (f l r:Nat),l<=r->r<=k->r - l<=f->(∀ i,i < l->lt (gt p k) (gt p i)=false)->(∀ i,r<=i->i < k->lt (gt p k) (gt p i)=true) →
  (kas_place p k f l r).kasWp (askIn n lt) (λl' _=>l'<=k/\(∀ i,i < l'->lt (gt p k) (gt p i)=false)/\∀ i,l'<=i->i < k->lt (gt p k) (gt p i)=true) s
 | 0,l,r,h1,h2,h3,h4,h5=>by
  rw [kas_place]
  exact ⟨by omega,h4,λi x y=>h5 i (by omega) y⟩
 | f+1,l,r,h1,h2,h3,h4,h5=>by
  rw [kas_place]
  split
  ·exact ⟨by omega,h4,λi x y=>h5 i (by omega) y⟩
  ·refine ⟨hp.bd (by omega) k,hp.bd (by omega) _,?_⟩
   cases h:lt (p.getD k 0) (p.getD ((l+r) / 2) 0) with
   | true =>
    dsimp only;rw [if_pos rfl]
    refine ga' hp hk up f l ((l+r) / 2) (by omega) (by omega) (by omega) h4 λi x y=>?_
    by_cases z:i=(l+r) / 2
    ·rw [z];exact h
    ·exact O.lt_le h (up _ _ (by omega) y)
   | false =>
    dsimp only;rw [if_neg Bool.false_ne_true]
    refine ga' hp hk up f ((l+r) / 2+1) r (by omega) (by omega) (by omega) (λi x=>?_) h5
    by_cases z:i=(l+r) / 2
    ·rw [z];exact h
    ·exact O.tr _ _ _ (up i ((l+r) / 2) (by omega) (by omega)) h
theorem nj':∀ (f:Nat) (p:Array Nat) (k:Nat),Pm n p->Up lt p k->1<=k->k+f=n->(kas_bin f p k).kasWp (askIn n lt) (λp' _=>Pm n p'/\Up lt p' n) s
 | 0,p,k,hp,up,h1,h2=>by
  rw [kas_bin]
  have:k=n:=by omega
  subst this
  exact ⟨hp,up⟩
 | f+1,p,k,hp,up,h1,h2=>by
  rw [kas_bin]
  refine fm' (ga' O two hp (by omega) up k 0 k (Nat.zero_le _) (Nat.le_refl _) (by omega) (λi h=>by omega) λi x y=>by omega) λl ⟨c1,c2,c3⟩=>?_
  refine nj' f _ (k+1) (Array.Perm.trans (bubble_perm _ _ _) hp) (λi j hij hj=>?_) (by omega) (by omega)
  have hk:k < p.size:=by rw [hp.size];omega
  rw [ni' hk (by omega),ni' hk (by omega),show k - (k - l)=l by omega]
  by_cases j1:j=l
  ·rw [if_pos j1,if_neg (by omega),if_neg (by omega)]
   exact c2 i (by omega)
  ·rw [if_neg j1]
   by_cases j2:l < j/\j<=k
   ·rw [if_pos j2]
    by_cases i1:i=l
    ·rw [if_pos i1]
     exact O.as _ _ (c3 (j - 1) (by omega) (by omega))
    ·rw [if_neg i1]
     by_cases i2:l < i/\i<=k
     ·rw [if_pos i2];exact up _ _ (by omega) (by omega)
     ·rw [if_neg i2];exact up _ _ (by omega) (by omega)
   ·rw [if_neg j2,if_neg (by omega),if_neg (by omega)]
    exact up _ _ hij (by omega)
theorem pY':(kas_sort n).kasWp (askIn n lt) (λp _=>Pm n p/\Up lt p n) s:=by
 unfold kas_sort
 refine fm' (oG' O two (p:=(List.range n).toArray) (Array.Perm.refl _)) λr ⟨a1,a2,a3,a4⟩=>?_
 split
 ·refine nj' O two _ _ _ a3 ?_ (by omega) (by omega)
  rw [Nat.max_eq_left a1]
  exact a4
 ·have:r.1=n:=by omega
  rw [this] at a4
  exact ⟨a3,a4⟩
end
end DL
namespace DL
open PySem PySem.W PySem.Spec PyProof.Rows
section
variable {prog:Program}{w:World}{A:Around}{E:Value->Shared->Prop}{s:Shared}
def byP (vs:List Value) (p:Array Nat):List Value:=p.toList.map λi=>vs.getD i Value.none
theorem nk' (vs:List Value):byP vs (List.range vs.length).toArray=vs:=by
 unfold byP
 refine List.ext_getElem (by simp) λi h1 h2=>?_
 simp [h2]
theorem pZ' {vs:List Value}{p:Array Nat} (h:Pm vs.length p):(byP vs p).length=vs.length:=by
 unfold byP
 rw [List.length_map,Array.length_toList,h.size]
def KeptBut (a:Addr) (h h':Heap):Prop:=∀ b o,b≠a->h.get? b=some o->h'.get? b=some o
theorem lc' {a:Addr}{vs:List Value}{e:Nat}{κ:SortKind}{lt:Nat->Nat->Bool}{P:PySem.Fin->Shared->Prop} (ho:s.heap.get? a=some (seqObj "list" vs.toArray e)) (h64:vs.length < 64) (O:Ord lt)
  (kind:∀ h' Q,KeptBut a s.heap h'->2<=vs.length->Q κ { s with heap:=h' }->wpAny (model prog w) A (keyKind' vs.toArray) Q E { s with heap:=h' })
  (less:∀ h' i j C,KeptBut a s.heap h'->i < vs.length->j < vs.length->C (lt i j) { s with heap:=h' }->wpAny (model prog w) A (keyLt' κ (vs.getD i Value.none) (vs.getD j Value.none)) C (λ_ _=>False) { s with heap:=h' })
  (fin:∀ p h' c,Pm vs.length p->Up lt p vs.length->KeptBut a s.heap h'->h'.get? a=some (seqObj "list" (byP vs p).toArray c)->P (.done (.ret .none)) { s with heap:=h' }) :
  wpAny (model prog w) A (Builtin.«list.sort» ⟨[.ref a],[]⟩) P E s:=by
 have line:64<=sizeLine:=by rw [sizeLine_eq];decide
 obtain ⟨g1,eg1⟩:∃ g1,g1=s.heap.update a (Obj.mapSeq λ_=>(#[]:Array Value)):=⟨_,rfl⟩
 obtain ⟨e1,o1⟩:∃ e1,g1.get? a=some (seqObj "list" #[] e1):=⟨_,by rw [eg1];exact get?_update_seq ho _⟩
 have k1:KeptBut a s.heap g1:=λb o ne x=>by rw [eg1];exact (Heap.get?_update_other _ _ (Ne.symm ne)).trans x
 obtain ⟨g2,eg2⟩:∃ g2,g2=(g1.push (seqObj "tuple" vs.toArray 0)).push (seqObj "list" #[] 0):=⟨_,rfl⟩
 have o2:g2.get? a=some (seqObj "list" #[] e1):=by rw [eg2];exact Heap.get?_push_of_some _ (Heap.get?_push_of_some _ o1)
 have k2:KeptBut a s.heap g2:=λb o ne x=>by rw [eg2];exact Heap.get?_push_of_some _ (Heap.get?_push_of_some _ (k1 b o ne x))
 have runs:∀ κ',(2<=vs.length->κ'=κ)->wpAny (model prog w) A ((if vs.toArray.size < 2 then pure () else sortRuns').run (SortSt.mk' κ' (vs.toArray.zip vs.toArray) #[] 7 none))
   (λr s'=>s'={ s with heap:=g2 }/\∃ p,Pm vs.length p/\Up lt p vs.length/\(arrOf r.2).map (·.2)=(byP vs p).toArray/\failedOf r.2=none) E { s with heap:=g2 }:=λκ' hκ=>by
  rcases Nat.lt_or_ge vs.length 2 with small | big
  ·rw [if_pos (by rw [List.size_toArray];exact small)]
   refine wpAny_pure ⟨rfl,(List.range vs.length).toArray,Array.Perm.refl _,λi j x y=>by omega,?_,rfl⟩
   rw [nk']
   show ((vs.toArray.zip vs.toArray).map (·.2))=_
   refine Array.ext (by simp) λi h1 h2=>by simp
  ·rw [if_neg (by rw [List.size_toArray];omega),hκ big]
   refine kat_run (ks:=vs) (vs:=vs) (G:=λp s'=>(Pm vs.length p/\Up lt p vs.length)/\s'={ s with heap:=g2 }) (Q:=λst s'=>s'={ s with heap:=g2 }/\∃ p,Pm vs.length p/\Up lt p vs.length/\(arrOf st).map (·.2)=(byP vs p).toArray/\failedOf st=none) rfl big h64 ?_ ?_
   ·rintro p st s' hz arr none' ⟨⟨hp,up⟩,rfl⟩
    exact ⟨rfl,p,hp,up,kat_snds rfl arr,none'⟩
   ·exact eT' (P:=λp=>Pm vs.length p/\Up lt p vs.length) (λi j C h1 h2 h3=>less g2 i j C k2 h1 h2 h3) (λp hp=>⟨hp,rfl⟩) _ (pY' O big)
 rw [list_sort_plain]
 refine wpAny_bind (listItems_at ho rfl (wpAny_bind (listUpdate_at ho rfl ?_ (by rw [List.size_toArray];omega) (Nat.zero_le _))))
 rw [← eg1]
 refine wpAny_bind (seqEpoch_at o1 rfl (wpAny_bind (wpAny_newTuple (wpAny_bind (wpAny_newList (wpAny_holding ?_) (Nat.zero_le _))) (by show vs.length<=_;omega))))
 show wpAny (model prog w) A _ P E { s with heap:=(g1.push (seqObj "tuple" vs.toArray 0)).push (seqObj "list" #[] 0) }
 rw [← eg2]
 dsimp only
 rcases Nat.lt_or_ge vs.length 2 with small | big
 all_goals
  first
   | (rw [if_pos (by rw [List.size_toArray];exact small)];refine wpAny_bind (wpAny_pure ?_);have step:=runs general' λh=>by omega)
   | (rw [if_neg (by rw [List.size_toArray];omega)];refine wpAny_bind (kind g2 _ k2 big ?_);have step:=runs κ λ_=>rfl)
  refine wpAny_bind (wpAny_mono step (λr s' h=>?_) λ_ _ x=>x)
  obtain ⟨rfl,p,hp,up,arr,none'⟩:=h
  rw [arr,none']
  refine wpAny_bind (seqEpoch_at o2 rfl (wpAny_bind (listUpdate_at o2 rfl ?_ (Nat.zero_le _) ?_)))
  ·dsimp only
   rw [bne_self_eq_false,if_neg Bool.false_ne_true]
   exact wpAny_pure (fin p _ _ hp up (λb o ne x=>(Heap.get?_update_other _ _ (Ne.symm ne)).trans (k2 b o ne x)) (get?_update_seq o2 λ_=>(byP vs p).toArray))
  ·show (byP vs p).toArray.size<=_
   rw [List.size_toArray,pZ' hp]
   omega
theorem fn' {l:Addr}{vs:List Value}{κ:SortKind}{lt:Nat->Nat->Bool}{Q:Value->Shared->Prop} (h64:vs.length < 64) (O:Ord lt)
  (col:∀ Q':List Value->Shared->Prop,(∀ h' tk,(∀ b o,s.heap.get? b=some o->h'.get? b=some o)->s.heap.objs.size<=h'.objs.size->Q' vs { s with heap:=h',toks:=tk })->wpAny (model prog w) A.in1 (collect (.ref l)) Q' E s)
  (kind:∀ h' tk Q,(∀ b o,s.heap.get? b=some o->h'.get? b=some o)->2<=vs.length->Q κ { s with heap:=h',toks:=tk }->wpAny (model prog w) A.in1.in1 (keyKind' vs.toArray) Q (λ_ _=>False) { s with heap:=h',toks:=tk })
  (less:∀ h' tk i j C,(∀ b o,s.heap.get? b=some o->h'.get? b=some o)->i < vs.length->j < vs.length->C (lt i j) { s with heap:=h',toks:=tk }->wpAny (model prog w) A.in1.in1 (keyLt' κ (vs.getD i Value.none) (vs.getD j Value.none)) C (λ_ _=>False) { s with heap:=h',toks:=tk })
  (fin:∀ p h' tk D c,Pm vs.length p->Up lt p vs.length->(∀ b o,s.heap.get? b=some o->h'.get? b=some o)->s.heap.objs.size<=D->h'.get? D=some (seqObj "list" (byP vs p).toArray c)->Q (.ref D) { s with heap:=h',toks:=tk }) :
  wpAny (model prog w) A (call (.builtin "sorted") [Value.ref l]) Q E s:=by
 have line:64<=sizeLine:=by rw [sizeLine_eq];decide
 refine Calls.call_function_entry kind_sorted plain_sorted entry_sorted (args_sorted1 _) ?_;refine wpAny_bind (m:=checkCount "sorted" 1 1 _) (wpAny_pure (wpAny_bind (col _ λg tk kg above=>wpAny_bind (wpAny_newList ?_ (by omega)))))
 have at':(g.push (seqObj "list" vs.toArray 0)).get? g.objs.size=some (seqObj "list" vs.toArray 0):=Heap.get?_push_size _ rfl
 have old:∀ (h':Heap),KeptBut g.objs.size (g.push (seqObj "list" vs.toArray 0)) h'->∀ b o,s.heap.get? b=some o->h'.get? b=some o:=λh' k b o x =>
  k b o (Nat.ne_of_lt (Nat.lt_of_lt_of_le (Heap.lt_size x) above)) (Heap.get?_push_of_some _ (kg b o x))
 refine wpAny_bind (wpAny_holding (wpAny_call_entry PyProof.Rows.slot_list_sort ⟨_,at',rfl⟩ PyProof.Rows.entry_list_sort ?_ (args_list_sort _)))
 refine lc' (s:={ s with heap:=g.push (seqObj "list" vs.toArray 0),toks:=tk }) (lt:=lt) (κ:=κ) at' h64 O (λh' Q' k two q=>wpAny_mono (kind h' tk Q' (old h' k) two q) (λ_ _ x=>x) λ_ _ x=>x.elim) (λh' i j C k=>less h' tk i j C (old h' k)) λp h' c hp up k here=>?_
 exact ⟨_,rfl,wpAny_pure ⟨_,rfl,fin p h' tk _ c hp up (old h' k) above here⟩⟩
end
end DL
namespace DL
open PySem PySem.W PySem.Spec PyProof.Rows L2
def rk:D->Nat
 | .non=>0
 | .bl _=>1
 | .int _=>2
 | .str _=>3
 | .tup _=>4
 | .lst _=>5
def cI (a b:Int):Ordering:=if a < b then .lt else if b < a then .gt else .eq
mutual
def cO:D->D->Ordering
 | .int a,.int b=>cI a b
 | .tup xs,.tup ys=>cOA xs ys
 | a,b=>cI (rk a) (rk b)
def cOA:List D->List D->Ordering
 | [],[]=>.eq
 | [],_::_=>.lt
 | _::_,[]=>.gt
 | x::xs,y::ys=>(cO x y).then (cOA xs ys)
end
theorem d6' (a b:Int):cI b a=(cI a b).swap:=by
 unfold cI
 by_cases h1:a < b
 ·rw [if_pos h1,if_neg (by omega),if_pos h1];rfl
 ·by_cases h2:b < a
  ·rw [if_pos h2,if_neg h1,if_pos h2];rfl
  ·rw [if_neg h2,if_neg h1,if_neg h1,if_neg h2];rfl
theorem pk' {a b:D} (h:rk a≠rk b):cO a b=cI (rk a) (rk b):=by
 cases a<;>cases b<;>first | rfl | (exact absurd rfl h) | (simp [cO];done)
mutual
theorem hK':∀ a b:D,cO b a=(cO a b).swap
 | .int a,b=>by
  cases b<;>simp only [cO]<;>exact d6' _ _
 | .tup xs,b=>by
  cases b<;>simp only [cO]<;>first | exact d6' _ _ | exact ju' _ _
 | .non,b=>by cases b<;>simp only [cO]<;>exact d6' _ _
 | .bl _,b=>by cases b<;>simp only [cO]<;>exact d6' _ _
 | .str _,b=>by cases b<;>simp only [cO]<;>exact d6' _ _
 | .lst _,b=>by cases b<;>simp only [cO]<;>exact d6' _ _
theorem ju':∀ xs ys:List D,cOA ys xs=(cOA xs ys).swap
 | [],[]=>by simp [cOA]
 | [],_::_=>by simp [cOA]
 | _::_,[]=>by simp [cOA]
 | x::xs,y::ys=>by
  rw [cOA,cOA,hK' x y,ju' xs ys]
  cases cO x y<;>rfl
end
def dl (a b:D):Bool:=cO a b == .lt
def dlA (xs ys:List D):Bool:=cOA xs ys == .lt
theorem lW' (a b:Int):(cI a b == Ordering.lt)=decide (a < b):=by
 unfold cI
 by_cases h1:a < b
 ·rw [if_pos h1];simp [h1]
 ·rw [if_neg h1]
  split<;>simp [h1]
theorem c3' {a b:Int}:dl (.int a) (.int b)=decide (a < b):=by
 unfold dl
 rw [cO,lW']
theorem fo' {xs ys:List D}:dl (.tup xs) (.tup ys)=dlA xs ys:=by
 unfold dl dlA
 rw [cO]
theorem gM':dlA [] []=false:=by unfold dlA;simp [cOA]
theorem eK' {y:D}{ys:List D}:dlA [] (y::ys)=true:=by unfold dlA;simp [cOA]
theorem fp' {y:D}{ys:List D}:dlA (y::ys) []=false:=by unfold dlA;simp [cOA]
theorem fq' {x y:D}{xs ys:List D}:dlA (x::xs) (y::ys)=(dl x y||(!dl y x&&dlA xs ys)):=by
 unfold dlA dl
 rw [cOA,hK' x y]
 cases cO x y<;>simp [Ordering.then,Ordering.swap]
theorem pl' {a b:D} (h:rk a < rk b):dl a b=true:=by
 unfold dl
 rw [pk' (Nat.ne_of_lt h),lW']
 simp;omega
theorem si' {a b:D} (h:rk b < rk a):dl a b=false:=by
 unfold dl
 rw [pk' (Nat.ne_of_gt h),lW']
 simp;omega
theorem fR' {a b:D} (h:rk a=rk b) (h1:rk a≠2) (h2:rk a≠4):dl a b=false:=by
 unfold dl
 cases a<;>cases b<;>first | (simp [rk] at h;done) | (exact absurd rfl h1) | (exact absurd rfl h2) | (simp [cO,cI,rk];done)
mutual
theorem gN':∀ a b c:D,dl b a=false->dl c b=false->dl c a=false:=λa b c h1 h2=>by
 have r1:rk a<=rk b:=Nat.le_of_not_lt λh=>by rw [pl' h] at h1;cases h1
 have r2:rk b<=rk c:=Nat.le_of_not_lt λh=>by rw [pl' h] at h2;cases h2
 rcases Nat.lt_or_ge (rk a) (rk c) with h | h
 ·exact si' h
 ·have e1:rk b=rk a:=by omega
  have e2:rk c=rk a:=by omega
  match a,b,c with
  | .int a,.int b,.int c =>
   rw [c3'] at h1 h2 ⊢
   simp at h1 h2 ⊢
   omega
  | .tup xs,.tup ys,.tup zs =>
   rw [fo'] at h1 h2 ⊢
   exact nl' xs ys zs h1 h2
  | .non,_,_=>exact fR' e2 (by rw [e2];decide) (by rw [e2];decide)
  | .bl _,_,_=>exact fR' e2 (by rw [e2];simp [rk]) (by rw [e2];simp [rk])
  | .str _,_,_=>exact fR' e2 (by rw [e2];simp [rk]) (by rw [e2];simp [rk])
  | .lst _,_,_=>exact fR' e2 (by rw [e2];simp [rk]) (by rw [e2];simp [rk])
termination_by a b c=>sizeOf a+sizeOf b+sizeOf c
decreasing_by all_goals (simp_wf;omega)
theorem nl':∀ xs ys zs:List D,dlA ys xs=false->dlA zs ys=false->dlA zs xs=false
 | [],_,[],_,_=>gM'
 | [],_,z::zs,_,_=>fp'
 | x::xs,[],_,h1,_=>by rw [eK'] at h1;cases h1
 | x::xs,y::ys,[],_,h2=>by rw [eK'] at h2;cases h2
 | x::xs,y::ys,z::zs,h1,h2=>by
  simp only [fq',Bool.or_eq_false_iff,Bool.and_eq_false_iff,Bool.not_eq_false'] at h1 h2 ⊢
  obtain ⟨a1,a2⟩:=h1
  obtain ⟨b1,b2⟩:=h2
  refine ⟨gN' x y z a1 b1,?_⟩
  cases hx:dl x z with
  | true=>exact .inl rfl
  | false =>
   right
   rcases a2 with a2 | a2
   ·have:=gN' y z x b1 hx
    rw [a2] at this;cases this
   ·rcases b2 with b2 | b2
    ·have:=gN' z x y hx a1
     rw [b2] at this;cases this
    ·exact nl' xs ys zs a2 b2
termination_by xs ys zs=>sizeOf xs+sizeOf ys+sizeOf zs
decreasing_by all_goals (simp_wf;omega)
end
theorem pm' (a b:D) (h:dl a b=true):dl b a=false:=by
 unfold dl at h ⊢
 rw [hK' a b]
 cases e:cO a b<;>rw [e] at h<;>first | rfl | (cases h;done)
theorem gO' (ds:List D):Ord λi j=>dl (ds.getD i .non) (ds.getD j .non):=⟨λa b h=>pm' _ _ h,λa b c h1 h2=>gN' _ _ _ h1 h2⟩
mutual
def cmB:D->D->Bool
 | .int _,.int _=>true
 | .tup xs,.tup ys=>cmA xs ys
 | _,_=>false
def cmA:List D->List D->Bool
 | x::xs,y::ys=>cmB x y&&cmA xs ys
 | _,_=>true
end
mutual
theorem fr':∀ a b:D,cmB a b=true->deq a b=(!dl a b&&!dl b a)
 | .int a,.int b,_=>by
  rw [c3',c3']
  by_cases h:a=b
  ·simp [deq,h]
  ·rcases Int.lt_or_gt_of_ne h with h' | h'
   ·simp [deq,h,h']
   ·simp [deq,h,h']
 | .tup xs,.tup ys,h=>by
  rw [cmB] at h
  rw [deq,fo',fo']
  exact ld' xs ys h
 | .non,_,h=>by simp [cmB] at h
 | .bl _,_,h=>by simp [cmB] at h
 | .str _,_,h=>by simp [cmB] at h
 | .lst _,_,h=>by simp [cmB] at h
 | .int _,.non,h=>by simp [cmB] at h
 | .int _,.bl _,h=>by simp [cmB] at h
 | .int _,.str _,h=>by simp [cmB] at h
 | .int _,.tup _,h=>by simp [cmB] at h
 | .int _,.lst _,h=>by simp [cmB] at h
 | .tup _,.non,h=>by simp [cmB] at h
 | .tup _,.bl _,h=>by simp [cmB] at h
 | .tup _,.str _,h=>by simp [cmB] at h
 | .tup _,.int _,h=>by simp [cmB] at h
 | .tup _,.lst _,h=>by simp [cmB] at h
theorem ld':∀ xs ys:List D,cmA xs ys=true->deqA xs ys=(!dlA xs ys&&!dlA ys xs)
 | [],[],_=>by simp [deqA,gM']
 | [],_::_,_=>by simp [deqA,eK',fp']
 | _::_,[],_=>by simp [deqA,eK',fp']
 | x::xs,y::ys,h=>by
  rw [cmA,Bool.and_eq_true] at h
  rw [deqA,fr' x y h.1,ld' xs ys h.2,fq',fq']
  cases h1:dl x y<;>cases h2:dl y x<;>simp
end
mutual
theorem gP':∀ a b:D,cmB a b=true->deq a b=true->a=b
 | .int a,.int b,_,h=>by simp [deq] at h;rw [h]
 | .tup xs,.tup ys,c,h=>by
  rw [cmB] at c
  rw [deq] at h
  rw [le' xs ys c h]
 | .non,_,h,_=>by simp [cmB] at h
 | .bl _,_,h,_=>by simp [cmB] at h
 | .str _,_,h,_=>by simp [cmB] at h
 | .lst _,_,h,_=>by simp [cmB] at h
 | .int _,.non,h,_=>by simp [cmB] at h
 | .int _,.bl _,h,_=>by simp [cmB] at h
 | .int _,.str _,h,_=>by simp [cmB] at h
 | .int _,.tup _,h,_=>by simp [cmB] at h
 | .int _,.lst _,h,_=>by simp [cmB] at h
 | .tup _,.non,h,_=>by simp [cmB] at h
 | .tup _,.bl _,h,_=>by simp [cmB] at h
 | .tup _,.str _,h,_=>by simp [cmB] at h
 | .tup _,.int _,h,_=>by simp [cmB] at h
 | .tup _,.lst _,h,_=>by simp [cmB] at h
theorem le':∀ xs ys:List D,cmA xs ys=true->deqA xs ys=true->xs=ys
 | [],[],_,_=>rfl
 | [],_::_,_,h=>by simp [deqA] at h
 | _::_,[],_,h=>by simp [deqA] at h
 | x::xs,y::ys,c,h=>by
  rw [cmA,Bool.and_eq_true] at c
  rw [deqA,Bool.and_eq_true] at h
  rw [gP' x y c.1 h.1,le' xs ys c.2 h.2]
end
open PySem.SeqAt in
theorem gQ' (e lt:Nat->Bool) (d:Bool) (f:Nat->Nat):∀ l:List Nat,ltFrom e lt d (l.map f)=ltFrom (λi=>e (f i)) (λi=>lt (f i)) d l
 | []=>rfl
 | i::l=>by rw [List.map_cons,ltFrom,ltFrom,gQ' e lt d f l]
open PySem.SeqAt in
theorem it':∀ xs ys:List D,cmA xs ys=true->ltFrom (λj=>deq (xs.getD j .non) (ys.getD j .non)) (λj=>dl (xs.getD j .non) (ys.getD j .non)) (decide (xs.length < ys.length)) (List.range (min xs.length ys.length))=dlA xs ys
 | [],[],_=>by simp [ltFrom,gM']
 | [],_::_,_=>by simp [ltFrom,eK']
 | _::_,[],_=>by simp [ltFrom,fp']
 | x::xs,y::ys,c=>by
  rw [cmA,Bool.and_eq_true] at c
  have ih:=it' xs ys c.2
  rw [List.length_cons,List.length_cons,Nat.succ_min_succ,List.range_succ_eq_map,ltFrom,gQ',fq']
  have e:ltFrom (λi=>deq ((x::xs).getD i.succ .non) ((y::ys).getD i.succ .non)) (λi=>dl ((x::xs).getD i.succ .non) ((y::ys).getD i.succ .non)) (decide (xs.length+1 < ys.length+1)) (List.range (min xs.length ys.length))=dlA xs ys:=by
   rw [← ih]
   congr 1
   simp
  rw [e]
  show (if deq x y=true then dlA xs ys else dl x y)=_
  rw [fr' x y c.1]
  cases h1:dl x y<;>cases h2:dl y x<;>simp
theorem nm':∀ (xs ys:List D),cmA xs ys=true->∀ j,j < xs.length->j < ys.length->cmB (xs.getD j .non) (ys.getD j .non)=true
 | [],_,_,j,h,_=>by simp at h
 | _::_,[],_,j,_,h=>by simp at h
 | x::xs,y::ys,c,j,h1,h2=>by
  rw [cmA,Bool.and_eq_true] at c
  cases j with
  | zero=>exact c.1
  | succ j=>exact nm' xs ys c.2 j (by simpa using h1) (by simpa using h2)
section
variable {X:Cx}{pins:List (Addr×Obj)}{σ:L2.St}{H:Hp}{s:Shared}
open PySem.SeqAt in
theorem sj' (I:Inv X pins σ H s):∀ (n:Nat) (A:Around),A.units+n < cLine->∀ (a b:D) (x y:V) (u v:Value),dep a<=n->cmB a b=true->Is X.K H a x->Is X.K H b y->RelV x u->RelV y v->RcLtAt A s u v (dl a b):=by
 intro n
 induction n with
 | zero =>
  intro A hu a b x y u v hd c ha hb ru rv
  cases a<;>cases b<;>simp [cmB] at c
  ·rename_i i j
   rw [am' ha] at ru
   rw [am' hb] at rv
   obtain ⟨t1,rfl⟩:=ru
   obtain ⟨t2,rfl⟩:=rv
   rw [c3']
   exact RcLtAt.int_int _ _ _ _
  ·rw [dep] at hd
   omega
 | succ n ih =>
  intro A hu a b x y u v hd c ha hb ru rv
  cases a<;>cases b<;>simp [cmB] at c
  ·rename_i i j
   rw [am' ha] at ru
   rw [am' hb] at rv
   obtain ⟨t1,rfl⟩:=ru
   obtain ⟨t2,rfl⟩:=rv
   rw [c3']
   exact RcLtAt.int_int _ _ _ _
  ·rename_i ds es
   have hu1:A.in1.units+n < cLine:=by show A.units+1+n < cLine;omega
   obtain ⟨p,xs,rfl,h1,h2⟩:=as' ha
   obtain ⟨q,ys,rfl,h3,h4⟩:=as' hb
   cases ru;cases rv
   obtain ⟨its,r1,t1,_⟩:=I.tuple h1
   obtain ⟨jts,r2,t2,_⟩:=I.tuple h3
   have l1:its.toArray.size=ds.length:=by rw [List.size_toArray,← r1.length,h2.length]
   have l2:jts.toArray.size=es.length:=by rw [List.size_toArray,← r2.length,h4.length]
   have two:∀ j (g1:j < its.toArray.size) (g2:j < jts.toArray.size),EqAt A.in1 s its.toArray[j] jts.toArray[j] (deq (ds.getD j .non) (es.getD j .non))/\(deq (ds.getD j .non) (es.getD j .non)=false->RcLtAt A.in1 s its.toArray[j] jts.toArray[j] (dl (ds.getD j .non) (es.getD j .non))):=λj g1 g2=>by
    obtain ⟨v1,q1,q2⟩:=h2.getU r1 g1
    obtain ⟨v2,q3,q4⟩:=h4.getU r2 g2
    have m1:ds.getD j .non∈ds:=by
     rw [List.getD_eq_getElem?_getD,List.getElem?_eq_getElem (by omega)]
     exact List.getElem_mem _
    have k1:=bD' m1
    rw [dep] at hd
    exact ⟨(fP' I n A.in1 hu1 _ _ _ _ _ _ (.inl (by omega)) q2 q4 q1 q3).2.1,λ_=>ih A.in1 hu1 _ _ _ _ _ _ (by omega) (nm' ds es c j (by omega) (by omega)) q2 q4 q1 q3⟩
   have R1:=RcLtAt.tuples (A:=A) t1 t2 (by omega) two
   rw [l1,l2,it' ds es c] at R1
   rw [fo']
   exact R1
end
end DL
namespace DL
open PySem PySem.W PySem.Spec PyProof.Rows L2
def leD (a b:D):Bool:=!dl b a
def sortD (ds:List D):List D:=ds.mergeSort leD
theorem rq' (a b c:D) (h1:leD a b=true) (h2:leD b c=true):leD a c=true:=by
 unfold leD at *
 simp only [Bool.not_eq_true'] at *
 exact gN' a b c h1 h2
theorem p0' (a b:D):(leD a b||leD b a)=true:=by
 unfold leD
 cases h:dl b a with
 | false=>rfl
 | true=>rw [pm' b a h];rfl
theorem c4' (ds:List D):(sortD ds).Perm ds:=List.mergeSort_perm ds leD
theorem ea' (ds:List D):(sortD ds).Pairwise λa b=>leD a b=true:=List.pairwise_mergeSort rq' p0' ds
theorem gb':∀ (l m:List D),l.Perm m->(l.Pairwise λa b=>leD a b=true)->(m.Pairwise λa b=>leD a b=true)->(∀ a∈l,∀ b∈l,leD a b=true->leD b a=true->a=b)->l=m
 | [],m,p,_,_,_=>by rw [List.nil_perm.mp p]
 | a::l,[],p,_,_,_=>by have:=p.length_eq;simp at this
 | a::l,b::m,p,h1,h2,an=>by
  have e:a=b:=by
   have ia:a∈b::m:=p.mem_iff.mp List.mem_cons_self
   have ib:b∈a::l:=p.mem_iff.mpr List.mem_cons_self
   rcases List.mem_cons.mp ia with h | h
   ·exact h
   ·rcases List.mem_cons.mp ib with h' | h'
    ·exact h'.symm
    ·exact an a List.mem_cons_self b ib ((List.pairwise_cons.mp h1).1 b h') ((List.pairwise_cons.mp h2).1 a h)
  subst e
  rw [gb' l m ((List.perm_cons a).mp p) (List.pairwise_cons.mp h1).2 (List.pairwise_cons.mp h2).2 λx hx y hy=>an x (List.mem_cons_of_mem _ hx) y (List.mem_cons_of_mem _ hy)]
def permD (p:Array Nat) (ds:List D):List D:=p.toList.map λi=>ds.getD i .non
def permV (p:Array Nat) (zs:List V):List V:=p.toList.map λi=>zs.getD i .non
def cmAll (ds:List D):Bool:=ds.all λa=>ds.all λb=>cmB a b
theorem iu' {ds:List D}{p:Array Nat} (hp:Pm ds.length p) (up:Up (λi j=>dl (ds.getD i .non) (ds.getD j .non)) p ds.length) (cm:cmAll ds=true):permD p ds=sortD ds:=by
 have pm:(permD p ds).Perm ds:=by
  have h1:p.toList.Perm (List.range ds.length):=by
   have:=Array.perm_iff_toList_perm.mp hp
   simpa using this
  have h2:=h1.map λi=>ds.getD i .non
  have h3:((List.range ds.length).map λi=>ds.getD i .non)=ds:=by
   refine List.ext_getElem (by simp) λi h1 h2=>?_
   simp [h2]
  rw [h3] at h2
  exact h2
 have cm':∀ a∈permD p ds,∀ b∈permD p ds,cmB a b=true:=λa ha b hb=>by
  have:=List.all_eq_true.mp cm a (pm.mem_iff.mp ha)
  exact List.all_eq_true.mp this b (pm.mem_iff.mp hb)
 refine gb' _ _ (pm.trans (c4' ds).symm) ?_ (ea' ds) λa ha b hb h1 h2=>?_
 ·rw [List.pairwise_iff_getElem]
  intro i j hi hj hij
  unfold permD at hi hj ⊢
  rw [List.length_map,Array.length_toList,hp.size] at hi hj
  have:=up i j hij hj
  simp only [List.getElem_map,Array.getElem_toList]
  unfold gt at this
  rw [Array.getD,dif_pos (by rw [hp.size];exact hj),Array.getD,dif_pos (by rw [hp.size];exact hi)] at this
  unfold leD
  rw [Bool.not_eq_true']
  exact this
 ·have c:=cm' a ha b hb
  refine gP' a b c ?_
  rw [fr' a b c]
  unfold leD at h1 h2
  rw [h1,h2]
  rfl
section
variable {X:Cx}{pins:List (Addr×Obj)}{σ:L2.St}{H:Hp}{s:Shared}{A:Around}
def fstI:D->Bool
 | .tup (.int _::_)=>true
 | _=>false
def fstT:D->Bool
 | .tup (.tup _::_)=>true
 | _=>false
def isInt:D->Bool
 | .int _=>true
 | _=>false
theorem nn' (I:Inv X pins σ H s){prog:Program}{w:World}{n:Nat}{b fin:Bool}{Q:Bool->Shared->Prop} (hu:A.units+n < cLine):∀ (ds es:List D) (xs ys:List V) (us vs:List Value) (i:Nat),IsA X.K H ds xs->IsA X.K H es ys->Vals xs us->Vals ys vs →
  depA ds<=n->cmA ds es=true->fin=decide (ds.length < es.length)->(b=true->i=0->∀ d e r r',ds=d::r->es=e::r'->isInt d=true/\isInt e=true)->Q (dlA ds es) s->KatLex prog w A b fin Q (us.zip vs) i s
 | [],es,xs,ys,us,vs,i,h1,h2,h3,h4,hd,c,hf,fl,q=>by
  have:=h1.nil_inv;subst this
  cases h3
  rw [List.zip_nil_left]
  refine kat_nil ?_
  rw [hf]
  cases es with
  | nil=>rw [gM'] at q;exact q
  | cons e es=>rw [eK'] at q;simpa using q
 | d::ds,[],xs,ys,us,vs,i,h1,h2,h3,h4,hd,c,hf,fl,q=>by
  have:=h2.nil_inv;subst this
  cases h4
  rw [List.zip_nil_right]
  refine kat_nil ?_
  rw [hf]
  rw [fp'] at q
  simpa using q
 | d::ds,e::es,xs,ys,us,vs,i,h1,h2,h3,h4,hd,c,hf,fl,q=>by
  obtain ⟨x,xr,rfl,a1,a2⟩:=h1.cons_inv
  obtain ⟨y,yr,rfl,b1,b2⟩:=h2.cons_inv
  cases h3 with
  | cons r1 r2 =>
   cases h4 with
   | cons s1 s2 =>
    rename_i u us' v vs'
    rw [depA] at hd
    rw [cmA,Bool.and_eq_true] at c
    rw [fq'] at q
    have eq:=(fP' I n A hu d e x y u v (.inl (by omega)) a1 b1 r1 s1).2.1
    have lt:=sj' I n A hu d e x y u v (by omega) c.1 a1 b1 r1 s1
    have ed:=fr' d e c.1
    rw [List.zip_cons_cons]
    refine kat_cons (eq prog w _ _ (kat_go (λh=>kat_yes ?_) λh=>kat_no ?_))
    ·refine nn' I hu ds es xr yr us' vs' (i+1) a2 b2 r2 s2 (by omega) c.2 (by rw [hf];simp) (λ_ z=>by omega) ?_
     rw [h] at ed
     have ed:=ed.symm
     simp only [Bool.and_eq_true,Bool.not_eq_true'] at ed
     rw [ed.1,ed.2] at q
     simpa using q
    ·have q':Q (dl d e) s:=by
      rw [h] at ed
      cases h1:dl d e with
      | true=>rw [h1] at q;simpa using q
      | false =>
       rw [h1] at ed q
       cases h2:dl e d with
       | true=>rw [h2] at q;simpa using q
       | false=>rw [h2] at ed;cases ed
     by_cases z:b=true/\i=0
     ·obtain ⟨zb,zi⟩:=z
      obtain ⟨f1,f2⟩:=fl zb zi d e ds es rfl rfl
      subst zb;subst zi
      cases d<;>simp [isInt] at f1
      cases e<;>simp [isInt] at f2
      rw [am' a1] at r1
      rw [am' b1] at s1
      obtain ⟨t1,rfl⟩:=r1
      obtain ⟨t2,rfl⟩:=s1
      show wpAny _ _ (oneLt' true _ _) _ _ _
      rw [← keyLt'_oneType]
      rw [c3'] at q'
      exact kat_lt_int q'
     ·have:(b&&i == 0)=false:=by
       cases b
       ·rfl
       ·simp at z ⊢
        exact z
      rw [this]
      exact kat_one _ _ (lt prog w _ _ q')
theorem at_k {ds:List D}{zs:List V}{vs:List Value} (h:IsA X.K H ds zs) (r:Vals zs vs){k:Nat} (hk:k < vs.length):∃ x,Is X.K H (ds.getD k .non) x/\RelV x (vs.getD k .none)/\ds.getD k .non∈ds/\zs[k]?=some x:=by
 have l1:=h.length
 have l2:=r.length
 have hk1:k < ds.length:=by omega
 obtain ⟨x,e1,e2⟩:=h.get (List.getElem?_eq_getElem hk1)
 obtain ⟨u,e3,e4⟩:=r.get e1
 refine ⟨x,?_,?_,?_,e1⟩
 ·rw [List.getD_eq_getElem?_getD,List.getElem?_eq_getElem hk1];exact e2
 ·rw [List.getD_eq_getElem?_getD,e3];exact e4
 ·rw [List.getD_eq_getElem?_getD,List.getElem?_eq_getElem hk1];exact List.getElem_mem _
theorem hL' (I:Inv X pins σ H s) (prog:Program) (w:World) (P:D->Bool) (T:Value) (hP:∀ d,P d=true->∃ f r,d=.tup (f::r)/\∀ x u,Is X.K H f x->RelV x u->Looks (model prog w) s.heap (typeOf u) T) :
  ∀ (ds:List D) (zs:List V) (vs:List Value),IsA X.K H ds zs->Vals zs vs->ds.all P=true->∃ fs,KatTups s.heap vs fs/\fs.length=vs.length/\∀ v∈fs,Looks (model prog w) s.heap (typeOf v) T
 | [],zs,vs,h,r,_=>by
  have:=h.nil_inv;subst this
  cases r
  exact ⟨[],KatTups.nil,rfl,λv hv=>nomatch hv⟩
 | d::ds,zs,vs,h,r,ok=>by
  obtain ⟨x,zr,rfl,h1,h2⟩:=h.cons_inv
  rw [List.all_cons,Bool.and_eq_true] at ok
  cases r with
  | cons r1 r2 =>
   obtain ⟨fs,k1,k2,k3⟩:=hL' I prog w P T hP ds zr _ h2 r2 ok.2
   obtain ⟨f,rest,rfl,look⟩:=hP d ok.1
   obtain ⟨a,ys,rfl,g1,g2⟩:=as' h1
   cases r1
   obtain ⟨its,q1,q2,_⟩:=I.tuple g1
   obtain ⟨y,yr,rfl,g3,g4⟩:=g2.cons_inv
   cases q1 with
   | cons q3 q4 =>
    obtain ⟨o,e1,e2,n,e3⟩:=q2
    refine ⟨_::fs,KatTups.cons e1 e2 e3 rfl k1,by simp [k2],λv hv=>?_⟩
    rcases List.mem_cons.mp hv with rfl | hv
    ·exact look y _ g3 q3
    ·exact k3 v hv
def SortOk (ds:List D):Prop:=ds.length < 64/\cmAll ds=true/\depA ds<=50/\(ds.all isInt=true\/ds.all fstI=true\/ds.all fstT=true)
theorem dx' (hu:X.A.units+100 < cLine){l:Addr}{ds:List D}{zs:List V}{its:List Value}{Q:VK} (I:Inv X pins σ H s) (ha:IsA X.K H ds zs) (rv:Vals zs its) (ok:SortOk ds)
  (col:∀ Q':List Value->Shared->Prop,(∀ h' tk,(∀ b o,s.heap.get? b=some o->h'.get? b=some o)->s.heap.objs.size<=h'.objs.size->Q' its { s with heap:=h',toks:=tk })->wpAny (model X.prog X.w) X.A.in1 (collect (.ref l)) Q' X.xe s)
  (k:∀ l q,Pm ds.length q->permD q ds=sortD ds->H l=none->Q (.ref l) (upd H l (.lst (permV q zs)))):wpAny (model X.prog X.w) X.A (call (.builtin "sorted") [.ref l]) (EP X pins σ Q) X.xe s:=by
 obtain ⟨h64,cm,dp,kd⟩:=ok
 have l1:=ha.length
 have l2:=rv.length
 have n1:its.length=ds.length:=by omega
 have cmij:∀ i j,i < its.length->j < its.length->cmB (ds.getD i .non) (ds.getD j .non)=true:=λi j hi hj=>by
  obtain ⟨_,_,_,mi,_⟩:=at_k ha rv hi
  obtain ⟨_,_,_,mj,_⟩:=at_k ha rv hj
  exact List.all_eq_true.mp (List.all_eq_true.mp cm _ mi) _ mj
 have out:∀ q h' tk D c,Pm its.length q->Up (λi j=>dl (ds.getD i .non) (ds.getD j .non)) q its.length->(∀ b o,s.heap.get? b=some o->h'.get? b=some o)->s.heap.objs.size<=D->h'.get? D=some (seqObj "list" (byP its q).toArray c)->EP X pins σ Q (.ref D) { s with heap:=h',toks:=tk }:=λq h' tk D c hp up keep above here=>by
  rw [n1] at hp up
  have hv:Vals (permV q zs) (byP its q):=by
   refine eJ' (by simp [permV,byP]) λi x u e1 e2=>?_
   obtain ⟨j,f1,rfl⟩:=getMap e1
   obtain ⟨j',f2,rfl⟩:=getMap e2
   rw [f1] at f2
   cases f2
   have hj:j < ds.length:=by
    have h1:j∈q.toList:=List.mem_of_getElem? f1
    have h2:=(Array.perm_iff_toList_perm.mp hp).mem_iff.mp h1
    simpa using h2
   obtain ⟨x,_,e4,_,e5⟩:=at_k ha rv (k:=j) (by omega)
   rw [List.getD_eq_getElem?_getD,e5]
   exact e4
  refine ⟨.ref D,_,I.laid (t':=tk) keep above (o:=.lst (permV q zs)) ⟨?_,byP its q,c,hv,here⟩,rfl,k D q hp (iu' hp up cm) (I.hok.fresh above)⟩
  show (permV q zs).length<=sizeLine
  rw [permV,List.length_map,Array.length_toList,hp.size,sizeLine_eq]
  omega
 have tupLt:∀ (b:Bool) (P:D->Bool),(∀ d,P d=true->∃ f r,d=.tup (f::r)/\(b=true->isInt f=true))->ds.all P=true->∀ h' tk i j C,(∀ b o,s.heap.get? b=some o->h'.get? b=some o)->i < its.length->j < its.length->C (dl (ds.getD i .non) (ds.getD j .non)) { s with heap:=h',toks:=tk } →
   wpAny (model X.prog X.w) X.A.in1.in1 (keyLt' (tuples' b) (its.getD i Value.none) (its.getD j Value.none)) C (λ_ _=>False) { s with heap:=h',toks:=tk }:=λb P hP all h' tk i j C keep hi hj hc=>by
  have I':Inv X pins σ H { s with heap:=h',toks:=tk }:=I.kept (t':=tk) keep
  obtain ⟨x,a1,a2,a3,_⟩:=at_k ha rv hi
  obtain ⟨y,b1,b2,b3,_⟩:=at_k ha rv hj
  have cc:=cmij i j hi hj
  have dq:=bD' a3
  obtain ⟨f1,r1,e1,g1⟩:=hP _ (List.all_eq_true.mp all _ a3)
  obtain ⟨f2,r2,e2,g2⟩:=hP _ (List.all_eq_true.mp all _ b3)
  rw [e1] at a1 cc hc dq
  rw [e2] at b1 cc hc
  obtain ⟨pa,xs,rfl,x1,x2⟩:=as' a1
  obtain ⟨pb,ys,rfl,y1,y2⟩:=as' b1
  generalize its.getD i Value.none=ui at a2
  generalize its.getD j Value.none=uj at b2
  cases a2;cases b2
  obtain ⟨us,q1,q2,_⟩:=I'.tuple x1
  obtain ⟨vs,q3,q4,_⟩:=I'.tuple y1
  obtain ⟨oa,m1,m2,na,m3⟩:=q2
  obtain ⟨ob,m4,m5,nb,m6⟩:=q4
  rw [fo'] at hc
  rw [cmB] at cc
  rw [dep] at dq
  refine kat_lt m1 m3 m4 m6 (nn' I' (n:=50) (by show X.A.units+1+1+50 < cLine;omega) _ _ xs ys _ _ 0 x2 y2 q1 q3 (by omega) cc ?_ (λzb _ d e rr rr' z1 z2=>?_) hc)
  ·have:=x2.length;have:=y2.length;have:=q1.length;have:=q3.length
   simp only [List.size_toArray]
   congr 1
   apply propext
   constructor<;>intro _<;>omega
  ·cases z1;cases z2
   exact ⟨g1 zb,g2 zb⟩
 rcases kd with kd | kd | kd
 ·-- whole numbers
  have isI:∀ k,k < its.length->∃ i t,its.getD k Value.none=.int i t/\ds.getD k .non=.int i:=λk hk=>by
   obtain ⟨x,a1,a2,a3,_⟩:=at_k ha rv hk
   have:=List.all_eq_true.mp kd _ a3
   cases e:ds.getD k .non<;>rw [e] at this a1<;>simp [isInt] at this
   rw [am' a1] at a2
   obtain ⟨t,a2⟩:=a2
   exact ⟨_,t,a2,rfl⟩
  refine fn' (κ:=oneType') (lt:=λi j=>dl (ds.getD i .non) (ds.getD j .non)) (by omega) (gO' ds) col (λh' tk Q' keep two q=>?_) (λh' tk i j C keep hi hj hc=>?_) out
  ·refine kas_kind (T:=.type "int") two (λv hv=>?_) (by decide) (by decide) q
   obtain ⟨k,hk,rfl⟩:=List.getElem_of_mem hv
   obtain ⟨i,t,e,_⟩:=isI k hk
   rw [List.getD_eq_getElem?_getD,List.getElem?_eq_getElem hk] at e
   change its[k]=_ at e
   rw [e]
   exact Looks.now
  ·obtain ⟨a,t1,e1,f1⟩:=isI i hi
   obtain ⟨b,t2,e2,f2⟩:=isI j hj
   rw [f1,f2,c3'] at hc
   rw [e1,e2]
   exact kat_lt_int hc
 ·-- tuples that begin with a whole number
  refine fn' (κ:=tuples' true) (lt:=λi j=>dl (ds.getD i .non) (ds.getD j .non)) (by omega) (gO' ds) col (λh' tk Q' keep two q=>?_) (λh' tk i j C keep hi hj hc=>tupLt true fstI (λd hd=>?_) kd h' tk i j C keep hi hj hc) out
  ·have I':Inv X pins σ H { s with heap:=h',toks:=tk }:=I.kept (t':=tk) keep
   obtain ⟨fs,k1,k2,k3⟩:=hL' I' X.prog X.w fstI (.type "int") (λd hd=>by
    unfold fstI at hd
    split at hd
    ·refine ⟨_,_,rfl,λx u hx hr=>?_⟩
     rw [am' hx] at hr
     obtain ⟨t,rfl⟩:=hr
     exact Looks.now
    ·cases hd) ds zs its ha rv kd
   exact kat_kind k1 (by omega) k3 (by decide) q
  ·unfold fstI at hd
   split at hd
   ·exact ⟨_,_,rfl,λ_=>rfl⟩
   ·cases hd
 ·-- tuples that begin with a tuple
  refine fn' (κ:=tuples' false) (lt:=λi j=>dl (ds.getD i .non) (ds.getD j .non)) (by omega) (gO' ds) col (λh' tk Q' keep two q=>?_) (λh' tk i j C keep hi hj hc=>tupLt false fstT (λd hd=>?_) kd h' tk i j C keep hi hj hc) out
  ·have I':Inv X pins σ H { s with heap:=h',toks:=tk }:=I.kept (t':=tk) keep
   obtain ⟨fs,k1,k2,k3⟩:=hL' I' X.prog X.w fstT (.type "tuple") (λd hd=>by
    unfold fstT at hd
    split at hd
    ·refine ⟨_,_,rfl,λx u hx hr=>?_⟩
     obtain ⟨a,ys,rfl,g1,g2⟩:=as' hx
     cases hr
     obtain ⟨jts,q1,q2,_⟩:=I'.tuple g1
     obtain ⟨o,e1,e2,n,e3⟩:=q2
     have look:Looks (model X.prog X.w) h' (typeOf (.ref a)) o.cls:=(Looks.ld e1).andThen .now
     rw [e2] at look
     exact look
    ·cases hd) ds zs its ha rv kd
   exact kat_kind k1 (by omega) k3 (by decide) q
  ·unfold fstT at hd
   split at hd
   ·exact ⟨_,_,rfl,λh=>by cases h⟩
   ·cases hd
theorem ft' (hu:X.A.units+100 < cLine):CallR X (.builtin "sorted") (λxs H Q=>∃ (p:Addr) (zs:List V) (ds:List D),xs=[.ref p]/\SqL X.K H p zs/\IsA X.K H ds zs/\SortOk ds/\∀ l q,Pm ds.length q->permD q ds=sortD ds->H l=none->Q (.ref l) (upd H l (.lst (permV q zs)))):=by
 intro pins s σ H xs us Q I r h
 obtain ⟨p,zs,ds,rfl,hq,ha,ok,k⟩:=h
 obtain ⟨u,rfl,ru⟩:=vals1 r
 cases ru
 obtain ⟨its,rv,t,hz⟩:=I.list hq
 have l1:=ha.length
 have l2:=rv.length
 have line:64<=sizeLine:=by rw [sizeLine_eq];decide
 refine dx' hu I ha rv ok (λQ' q=>collect_list t.isList (q _ s.toks (λb o x=>?_) ?_) (by have:=ok.1;omega)) k
 ·exact (Heap.get?_update_other _ _ (Ne.symm (Nat.ne_of_lt (Heap.lt_size x)))).trans (Heap.get?_push_of_some _ x)
 ·rw [Heap.size_update,size_push']
  exact Nat.le_succ _
end
section
variable {X:Cx}{B:BB}{e:Expr}{pos:Pos}{kr:Nat}
def sortF (ds:List D):Option (List D):=match ds with
 | [.lst xs]=>if xs.length < 64/\cmAll xs=true/\depA xs<=50/\(xs.all isInt=true\/xs.all fstI=true\/xs.all fstT=true) then some (sortD xs) else none
 | _=>none
theorem IsA.perm {K:PySem.W.Frag}{I:Hp}{ds:List D}{zs:List V}{q:Array Nat} (h:IsA K I ds zs) (hp:Pm ds.length q):IsA K I (permD q ds) (permV q zs):=by
 have low:∀ j∈q.toList,j < ds.length:=λj hj=>by
  have:=(Array.perm_iff_toList_perm.mp hp).mem_iff.mp hj
  simpa using this
 unfold permD permV
 clear hp
 generalize q.toList=js at low
 induction js with
 | nil=>exact IsA.nil
 | cons j js ih =>
  rw [List.map_cons,List.map_cons]
  refine IsA.cons ?_ (ih λi hi=>low i (List.mem_cons_of_mem _ hi))
  have hj:=low j List.mem_cons_self
  obtain ⟨x,e1,e2⟩:=h.get (List.getElem?_eq_getElem hj)
  rw [List.getD_eq_getElem?_getD,List.getD_eq_getElem?_getD,e1,List.getElem?_eq_getElem hj]
  exact e2
theorem fu' {p:Pos}{t:M (List D)} (hr:Room kr X.A) (hg:Gl X "sorted") (hm:X.mg "sorted"=none) (ha:AD X B [e] t) (he:starEach [e] X.env=(false,eval e X.env)::starEach [] X.env:=by rfl) (hpl:(backTo pos (starEach [] X.env)).any (·.1)=false:=by rfl) :
  EO X B (.Call (.Name "sorted" p) [e] [] pos) (fn1 sortF t):=mV' (ft' (hu100 hr)) (λds d e B G I H σ Γ xs Q r h k=>by
 unfold sortF at e
 split at e
 ·obtain ⟨ok,rfl⟩:=aw' e
  obtain ⟨x,rfl,hx⟩:=h.one
  obtain ⟨q,zs,rfl,h3,h4⟩:=aB' hx
  refine ⟨q,zs,_,rfl,(Same.rdK r.iH h3).sq,h4.mono r.iH,ok,λl q' hp es hl=>?_⟩
  refine k.new r hl ?_
  rw [← es]
  exact h4.perm hp
 ·cases e) hg hm boot_sorted ha (by decide) (by decide) he hpl
end
end DL
namespace DL
open PySem PySem.SetTable
def Ris (xs:Array Nat):Prop:=∀ i j (hi:i < xs.size) (hj:j < xs.size),i < j->xs[i] < xs[j]
theorem gc' {xs:Array Nat} (R:Ris xs) (j:Nat):∀ (f lo hi:Nat),hi<=xs.size->lo<=hi->hi - lo<=f->(∀ i (h:i < xs.size),i < lo->xs[i] < j)->(∀ i (h:i < xs.size),hi<=i->j<=xs[i]) →
  (below.go xs j f lo hi<=xs.size/\(∀ i (h:i < xs.size),i < below.go xs j f lo hi->xs[i] < j)/\∀ i (h:i < xs.size),below.go xs j f lo hi<=i->j<=xs[i])
 | 0,lo,hi,h1,h2,h3,h4,h5=>by
  rw [below.go]
  exact ⟨by omega,h4,λi h x=>h5 i h (by omega)⟩
 | f+1,lo,hi,h1,h2,h3,h4,h5=>by
  rw [below.go]
  split
  ·have hm:(lo+hi) / 2 < xs.size:=by omega
   have e:xs.getD ((lo+hi) / 2) j=xs[(lo+hi) / 2]:=by rw [Array.getD,dif_pos hm];rfl
   dsimp only
   rw [e]
   split
   ·rename_i lt
    refine gc' R j f ((lo+hi) / 2+1) hi h1 (by omega) (by omega) (λi h x=>?_) h5
    by_cases z:i=(lo+hi) / 2
    ·subst z;exact lt
    ·exact Nat.lt_trans (R i _ h hm (by omega)) lt
   ·rename_i nlt
    refine gc' R j f lo ((lo+hi) / 2) (by omega) (by omega) (by omega) h4 λi h x=>?_
    by_cases z:i=(lo+hi) / 2
    ·subst z;omega
    ·have:=R _ i hm h (by omega);omega
  ·exact ⟨by omega,h4,λi h x=>h5 i h (by omega)⟩
theorem eU' {xs:Array Nat} (R:Ris xs) (j:Nat):below xs j<=xs.size/\(∀ i (h:i < xs.size),i < below xs j->xs[i] < j)/\∀ i (h:i < xs.size),below xs j<=i->j<=xs[i] :=
 gc' R j xs.size 0 xs.size (Nat.le_refl _) (Nat.zero_le _) (Nat.le_refl _) (λi h x=>by omega) λi h x=>by omega
theorem oH' {xs:Array Nat} (R:Ris xs){i:Nat} (h:i < xs.size):below xs xs[i]=i:=by
 obtain ⟨b1,b2,b3⟩:=eU' R xs[i]
 rcases Nat.lt_trichotomy (below xs xs[i]) i with l | l | l
 ·have:=b3 (below xs xs[i]) (by omega) (Nat.le_refl _)
  have:=R _ i (by omega) h l
  omega
 ·exact l
 ·have:=b2 i h l
  omega
section
variable {t:SetTable}
theorem iv' (R:Ris t.place){i:Nat} (h:i < t.place.size):t.slot t.place[i]=.live i:=by
 unfold slot
 dsimp only
 rw [oH' R h,Array.getElem?_eq_getElem h]
 simp
theorem no' (R:Ris t.place) (hd:t.dummies=#[]){j:Nat} (h:j∉t.place):t.slot j=.empty:=by
 unfold slot
 dsimp only
 have e:¬ (t.place[below t.place j]? == some j)=true:=by
  intro z
  have z:t.place[below t.place j]?=some j:=by simpa using z
  exact h (Array.mem_of_getElem? z)
 rw [if_neg e]
 unfold has
 rw [hd]
 simp
def hd (m i p:Nat):Probe:=⟨i,runEnd m i - i,i,p,none⟩
def adv (m:Nat) (p:Probe):Probe:=match p with
 | ⟨j,k+1,i,q,d⟩=>⟨j+1,k,i,q,d⟩
 | ⟨_,0,i,q,d⟩=>⟨(leap m i q).1,runEnd m (leap m i q).1 - (leap m i q).1,(leap m i q).1,(leap m i q).2,d⟩
def pth (m:Nat) (h:Int):Nat->Probe
 | 0=>hd m (bits h % (m+1)) (bits h)
 | k+1=>adv m (pth m h k)
theorem jv' (h:Int) (k:Nat):t.advance (pth t.mask h k)=pth t.mask h (k+1):=by
 rw [pth]
 rcases pth t.mask h k with ⟨j,more,i,q,d⟩
 cases more<;>rfl
theorem iw' (m:Nat) (h:Int):∀ k,(pth m h k).dummy=none
 | 0=>rfl
 | k+1=>by
  have ih:=iw' m h k
  rw [pth]
  revert ih
  rcases pth m h k with ⟨j,more,i,q,d⟩
  intro ih
  cases more<;>exact ih
def sl (m:Nat) (h:Int) (k:Nat):Nat:=(pth m h k).j
theorem hM' {m:Nat}{h:Int}{c i p:Nat} (e:pth m h c=hd m i p):∀ d,d<=runEnd m i - i->pth m h (c+d)=⟨i+d,runEnd m i - i - d,i,p,none⟩
 | 0,_=>e
 | d+1,hd'=>by
  have ih:=hM' e d (by omega)
  rw [← Nat.add_assoc,pth,ih]
  obtain ⟨k,hk⟩:∃ k,runEnd m i - i - d=k+1:=⟨runEnd m i - i - d - 1,by omega⟩
  rw [hk,show runEnd m i - i - (d+1)=k by omega]
  rfl
theorem jw' {m:Nat}{h:Int}{c i p:Nat} (e:pth m h c=hd m i p):pth m h (c+(runEnd m i - i)+1)=hd m (leap m i p).1 (leap m i p).2:=by
 have:=hM' e (runEnd m i - i) (Nat.le_refl _)
 rw [pth,this,Nat.sub_self]
 rfl
theorem rt' (m i:Nat):runEnd m i - i<=9:=by
 unfold runEnd
 split<;>omega
def lp (m:Nat):Nat->Nat->Nat->Nat×Nat
 | 0,i,p=>(i,p)
 | n+1,i,p=>lp m n (leap m i p).1 (leap m i p).2
theorem np' {m:Nat}{h:Int}:∀ (n c i p:Nat),pth m h c=hd m i p->∃ c',c<=c'/\c'<=c+10*n/\pth m h c'=hd m (lp m n i p).1 (lp m n i p).2
 | 0,c,i,p,e=>⟨c,Nat.le_refl _,by omega,e⟩
 | n+1,c,i,p,e=>by
  obtain ⟨c',h1,h2,h3⟩:=np' n _ _ _ (jw' e)
  have:=rt' m i
  exact ⟨c',by omega,by omega,h3⟩
theorem gR' (m:Nat):∀ (a b i p:Nat),lp m (a+b) i p=lp m b (lp m a i p).1 (lp m a i p).2
 | 0,b,i,p=>by rw [Nat.zero_add];rfl
 | a+1,b,i,p=>by rw [Nat.succ_add,lp,gR' m a b];rfl
theorem eV' (m:Nat):∀ (n i p:Nat),(lp m n i p).2=p / 32 ^ n
 | 0,i,p=>by simp [lp]
 | n+1,i,p=>by
  rw [lp,eV' m n]
  show (p / 32) / 32 ^ n=_
  rw [Nat.div_div_eq_div_mul,Nat.pow_succ,Nat.mul_comm]
theorem pn' {m:Nat}:∀ (n i p:Nat),i < m+1->(lp m n i p).1 < m+1
 | 0,i,p,h=>h
 | n+1,i,p,h=>by
  rw [lp]
  exact pn' n _ _ (Nat.mod_lt _ (Nat.succ_pos _))
theorem p1' (h:Int):bits h < 2 ^ 64:=by
 unfold bits
 have h1:=Int.emod_lt_of_pos h (b:=2 ^ 64) (by decide)
 have h2:=Int.emod_nonneg h (b:=2 ^ 64) (by decide)
 omega
def Round (m:Nat):Prop:=∀ i,i < m+1->∀ j,j < m+1->∃ n,n < m+1/\(lp m n i 0).1=j
theorem round7:Round 7:=by
 have:∀ i,i < 8->∀ j,j < 8->∃ n,n < 8/\(lp 7 n i 0).1=j:=by decide +kernel
 exact this
theorem round31:Round 31:=by
 have:∀ i,i < 32->∀ j,j < 32->∃ n,n < 32/\(lp 31 n i 0).1=j:=by decide +kernel
 exact this
theorem nq' {m:Nat} (R:Round m) (h:Int){j:Nat} (hj:j < m+1):∃ n,n < m+14/\(lp m n (bits h % (m+1)) (bits h)).1=j:=by
 have p0:(lp m 13 (bits h % (m+1)) (bits h)).2=0:=by
  rw [eV']
  refine Nat.div_eq_of_lt (Nat.lt_of_lt_of_le (p1' h) ?_)
  decide
 have l0:=pn' (m:=m) 13 (bits h % (m+1)) (bits h) (Nat.mod_lt _ (Nat.succ_pos _))
 obtain ⟨n,h1,h2⟩:=R _ l0 j hj
 refine ⟨13+n,by omega,?_⟩
 rw [gR',p0]
 exact h2
theorem ru' {m:Nat} (R:Round m) (h:Int){j:Nat} (hj:j < m+1):∃ k,k < 10*(m+14)/\sl m h k=j:=by
 obtain ⟨n,h1,h2⟩:=nq' R h hj
 obtain ⟨c,h3,h4,h5⟩:=np' (m:=m) (h:=h) n 0 _ _ rfl
 refine ⟨c,by omega,?_⟩
 unfold sl
 rw [h5]
 exact h2
end
end DL
namespace DL
open PySem PySem.SetTable
def orb (m:Nat):Nat->Nat->List Nat
 | 0,_=>[]
 | k+1,i=>i::orb m k (leap m i 0).1
theorem oI' (m i:Nat):(leap m i 0).2=0:=by
 show 0 / 32=0
 rfl
theorem p2' (m n i:Nat):lp m (n+1) i 0=lp m n (leap m i 0).1 0:=by
 rw [lp,oI']
theorem nr' (m n i:Nat):(lp m n i 0).2=0:=by rw [eV'];simp
theorem ns' (m:Nat):∀ (k i n:Nat),n < k->(orb m k i)[n]?=some (lp m n i 0).1
 | 0,_,_,h=>by omega
 | k+1,i,0,_=>rfl
 | k+1,i,n+1,h=>by
  rw [orb,List.getElem?_cons_succ,ns' m k _ n (by omega),p2']
theorem p3' {m k i j:Nat} (h:j∈orb m k i) (hl:(orb m k i).length=k):∃ n,n < k/\(lp m n i 0).1=j:=by
 obtain ⟨n,hn,e⟩:=List.getElem_of_mem h
 refine ⟨n,by omega,?_⟩
 have:=ns' m k i n (by omega)
 rw [List.getElem?_eq_getElem hn,e] at this
 exact (Option.some.inj this).symm
theorem lf' (m:Nat):∀ (k i:Nat),(orb m k i).length=k
 | 0,_=>rfl
 | k+1,i=>by rw [orb,List.length_cons,lf' m k]
theorem round127:Round 127:=by
 have all:∀ j,j < 128->∃ n,n < 128/\(lp 127 n 0 0).1=j:=λj hj=>by
  have c:∀ j,j < 128->j∈orb 127 128 0:=by decide +kernel
  exact p3' (c j hj) (lf' _ _ _)
 have turn:(lp 127 128 0 0).1=0:=by decide +kernel
 intro i hi j hj
 obtain ⟨a,ha,ea⟩:=all i hi
 obtain ⟨b,hb,eb⟩:=all j hj
 have from0:∀ n,lp 127 n i 0=lp 127 (a+n) 0 0:=λn=>by rw [gR',ea,nr']
 rcases Nat.lt_or_ge b a with z | z
 ·refine ⟨b+128 - a,by omega,?_⟩
  rw [from0,show a+(b+128 - a)=128+b by omega,gR',turn,nr',eb]
 ·exact ⟨b - a,by omega,by rw [from0,show a+(b - a)=b by omega,eb]⟩
def hA (es:Array (Int×Value)) (i:Nat):Int:=(es[i]?.map (·.1)).getD 0
theorem po' {es:Array (Int×Value)}{i:Nat} (h:i < es.size):hA es i=es[i].1:=by
 unfold hA
 rw [Array.getElem?_eq_getElem h]
 rfl
structure TabOk (t:SetTable) (es:Array (Int×Value)):Prop where
 nd:t.dummies=#[]
 ris:Ris t.place
 sz:t.place.size=es.size
 low:∀ i (h:i < t.place.size),t.place[i]<=t.mask
 few:t.place.size<=60/\(t.mask=127\/(t.mask=31/\t.place.size<=18)\/(t.mask=7/\t.place.size<=4))
 pl:t.plain=true
 reach:∀ i (h:i < es.size) (h':i < t.place.size),∃ k,sl t.mask es[i].1 k=t.place[i]/\∀ k',k' < k->sl t.mask es[i].1 k'∈t.place
theorem jx':∀ (n:Nat) (l:List Nat),(∀ j,j < n->j∈l)->n<=l.length
 | 0,_,_=>Nat.zero_le _
 | n+1,l,h=>by
  have:=jx' n (l.erase n) λj hj=>(List.mem_erase_of_ne (by omega)).mpr (h j (by omega))
  rw [List.length_erase_of_mem (h n (by omega))] at this
  have:0 < l.length:=List.length_pos_of_mem (h n (by omega))
  omega
section
variable {t:SetTable}{es:Array (Int×Value)}
theorem TabOk.round (T:TabOk t es):Round t.mask:=by
 rcases T.few.2 with h | h | h
 ·rw [h];exact round127
 ·rw [h.1];exact round31
 ·rw [h.1];exact round7
theorem TabOk.free (T:TabOk t es) (h:Int):∃ K,K < 10*(t.mask+14)/\sl t.mask h K∉t.place/\∀ k,k < K->sl t.mask h k∈t.place:=by
 have ex:∃ k,k < 10*(t.mask+14)/\sl t.mask h k∉t.place:=by
  apply Classical.byContradiction
  intro no
  have:t.mask+1<=t.place.toList.length:=jx' (t.mask+1) _ λj hj=>by
   obtain ⟨k,k1,k2⟩:=ru' T.round h hj
   apply Classical.byContradiction
   intro nj
   exact no ⟨k,k1,by rw [k2];simpa using nj⟩
  rw [Array.length_toList] at this
  have:=T.few
  omega
 obtain ⟨k,k1,k2⟩:=ex
 induction k using Nat.strongRecOn with
 | ind k ih =>
  by_cases z:∃ k',k' < k/\sl t.mask h k'∉t.place
  ·obtain ⟨k',a,b⟩:=z
   exact ih k' a (by omega) b
  ·refine ⟨k,k1,k2,λk' hk'=>?_⟩
   apply Classical.byContradiction
   intro nj
   exact z ⟨k',hk',nj⟩
theorem lg' {m i:Nat} (h:i<=m):i+(runEnd m i - i)<=m:=by
 unfold runEnd
 split<;>omega
theorem gS' (m:Nat) (h:Int):∀ k,(pth m h k).j+(pth m h k).more<=m/\(pth m h k).i<=m
 | 0=>by
  have:bits h % (m+1)<=m:=Nat.le_of_lt_succ (Nat.mod_lt _ (Nat.succ_pos _))
  exact ⟨lg' this,this⟩
 | k+1=>by
  have ih:=gS' m h k
  rw [pth]
  revert ih
  rcases pth m h k with ⟨j,more,i,q,d⟩
  intro ih
  cases more with
  | zero =>
   have:(leap m i q).1<=m:=Nat.le_of_lt_succ (Nat.mod_lt _ (Nat.succ_pos _))
   exact ⟨lg' this,this⟩
  | succ more =>
   dsimp only at ih
   exact ⟨by show j+1+more<=m;omega,ih.2⟩
theorem nu' {xs:Array Nat}{j:Nat} (h:j∈xs):∃ i,∃ h:i < xs.size,xs[i]=j:=by
 obtain ⟨i,hi,e⟩:=Array.getElem_of_mem h
 exact ⟨i,hi,e⟩
theorem jy' (T:TabOk t es){h:Int}{K:Nat} (hK:sl t.mask h K∉t.place) (hk:∀ k,k < K->sl t.mask h k∈t.place):∀ (f k:Nat),k<=K->K - k < f →
  (∃ k' i,∃ hi:i < es.size,∃ hi':i < t.place.size,k<=k'/\k' < K/\t.place[i]=sl t.mask h k'/\es[i].1=h/\probe.go t (hA es) h f (pth t.mask h k)=some (.candidate (sl t.mask h k') i (pth t.mask h (k'+1))) ∧
   ∀ k'',k<=k''->k'' < k'->∀ j (hj:j < es.size) (hj':j < t.place.size),t.place[j]=sl t.mask h k''->es[j].1≠h) ∨
  (probe.go t (hA es) h f (pth t.mask h k)=some (.empty (sl t.mask h K) none)/\∀ k'',k<=k''->k'' < K->∀ j (hj:j < es.size) (hj':j < t.place.size),t.place[j]=sl t.mask h k''->es[j].1≠h)
 | 0,k,h1,h2=>by omega
 | f+1,k,h1,h2=>by
  by_cases z:k=K
  ·subst z
   right
   refine ⟨?_,λk'' a b=>by omega⟩
   rw [probe.go,show (pth t.mask h k).j=sl t.mask h k from rfl,no' T.ris T.nd hK,iw']
  ·obtain ⟨i,hi,e⟩:=nu' (hk k (by omega))
   have hi2:i < es.size:=by rw [← T.sz];exact hi
   have st:t.slot (pth t.mask h k).j=.live i:=by
    rw [show (pth t.mask h k).j=t.place[i] from e.symm]
    exact iv' T.ris hi
   have only:∀ j (hj':j < t.place.size),t.place[j]=sl t.mask h k->j=i:=λj hj' ej=>by
    rcases Nat.lt_trichotomy j i with l | l | l
    ·have:=T.ris j i hj' hi l;omega
    ·exact l
    ·have:=T.ris i j hi hj' l;omega
   by_cases same:es[i].1=h
   ·left
    refine ⟨k,i,hi2,hi,Nat.le_refl _,by omega,e,same,?_,λk'' a b=>by omega⟩
    rw [probe.go,st]
    dsimp only
    rw [po' hi2,same,if_pos (by simp),jv']
    rfl
   ·have go:probe.go t (hA es) h (f+1) (pth t.mask h k)=probe.go t (hA es) h f (pth t.mask h (k+1)):=by
     rw [probe.go,st]
     dsimp only
     rw [po' hi2,if_neg (by simpa using same),jv']
    rw [go]
    have here:∀ j (hj:j < es.size) (hj':j < t.place.size),t.place[j]=sl t.mask h k->es[j].1≠h:=λj hj hj' ej=>by
     have:=only j hj' ej
     subst this
     exact same
    rcases jy' T hK hk f (k+1) (by omega) (by omega) with ⟨k',i',a1,a2,a3,a4,a5,a6,a7,a8⟩ | ⟨a1,a2⟩
    ·refine .inl ⟨k',i',a1,a2,by omega,a4,a5,a6,a7,λk'' b1 b2 j hj hj' ej=>?_⟩
     by_cases z':k''=k
     ·subst z';exact here j hj hj' ej
     ·exact a8 k'' (by omega) b2 j hj hj' ej
    ·refine .inr ⟨a1,λk'' b1 b2 j hj hj' ej=>?_⟩
     by_cases z':k''=k
     ·subst z';exact here j hj hj' ej
     ·exact a2 k'' (by omega) b2 j hj hj' ej
theorem d7' {α:Type}{xs:Array α}{p:Nat} (hp:p<=xs.size) (x:α) (i:Nat):(insertAt xs p x)[i]?=if i < p then xs[i]? else if i=p then some x else xs[i - 1]?:=by
 unfold insertAt
 rw [Array.getElem?_append,Array.size_push,Array.size_extract]
 have e:min p xs.size - 0=p:=by omega
 rw [e]
 by_cases h1:i < p
 ·rw [if_pos (by omega),if_pos h1,Array.getElem?_push,Array.size_extract,e,if_neg (by omega),Array.getElem?_extract,if_pos (by omega),Nat.zero_add]
 ·rw [if_neg h1]
  by_cases h2:i=p
  ·rw [if_pos (by omega),if_pos h2,Array.getElem?_push,Array.size_extract,e,if_pos h2]
  ·rw [if_neg (by omega),if_neg h2,Array.getElem?_extract]
   by_cases h3:i - (p+1) < min xs.size xs.size - p
   ·rw [if_pos h3]
    congr 1
    omega
   ·rw [if_neg h3]
    symm
    rw [Array.getElem?_eq_none]
    omega
theorem gd' {α:Type}{xs:Array α}{p:Nat} (hp:p<=xs.size) (x:α):(insertAt xs p x).size=xs.size+1:=by
 unfold insertAt
 rw [Array.size_append,Array.size_push,Array.size_extract,Array.size_extract]
 omega
theorem lh' {α:Type}{xs:Array α}{p:Nat} (hp:p<=xs.size) (x y:α):y∈insertAt xs p x↔y=x\/y∈xs:=by
 constructor
 ·intro h
  obtain ⟨i,e⟩:=Array.mem_iff_getElem?.mp h
  rw [d7' hp] at e
  split at e
  ·exact .inr (Array.mem_of_getElem? e)
  ·split at e
   ·cases e;exact .inl rfl
   ·exact .inr (Array.mem_of_getElem? e)
 ·rintro (rfl | h)
  ·refine Array.mem_iff_getElem?.mpr ⟨p,?_⟩
   rw [d7' hp,if_neg (by omega),if_pos rfl]
  ·obtain ⟨i,e⟩:=Array.mem_iff_getElem?.mp h
   by_cases z:i < p
   ·exact Array.mem_iff_getElem?.mpr ⟨i,by rw [d7' hp,if_pos z];exact e⟩
   ·exact Array.mem_iff_getElem?.mpr ⟨i+1,by rw [d7' hp,if_neg (by omega),if_neg (by omega)];exact e⟩
theorem rv' (T:TabOk t es){h:Int}{x:Value}{K:Nat} (hK:sl t.mask h K∉t.place) (hk:∀ k,k < K->sl t.mask h k∈t.place) :
  let q:=t.put (sl t.mask h K)
  q.1.dummies=#[]/\Ris q.1.place/\q.1.place.size=(insertAt es q.2 (h,x)).size/\(∀ i (h:i < q.1.place.size),q.1.place[i]<=q.1.mask)/\q.1.mask=t.mask/\q.1.plain=t.plain/\q.1.led=t.led/\q.1.moves=t.moves/\q.1.place.size=t.place.size+1/\q.2<=es.size ∧
   (∀ i (h1:i < (insertAt es q.2 (h,x)).size) (h2:i < q.1.place.size),∃ k,sl q.1.mask (insertAt es q.2 (h,x))[i].1 k=q.1.place[i]/\∀ k',k' < k->sl q.1.mask (insertAt es q.2 (h,x))[i].1 k'∈q.1.place):=by
 intro q
 obtain ⟨b1,b2,b3⟩:=eU' T.ris (sl t.mask h K)
 have q2:q.2=below t.place (sl t.mask h K):=rfl
 have q1:q.1.place=insertAt t.place (below t.place (sl t.mask h K)) (sl t.mask h K):=rfl
 have hp:q.2<=es.size:=by rw [q2,← T.sz];exact b1
 have nh:has t.dummies (sl t.mask h K)=false:=by rw [T.nd];rfl
 have qd:q.1.dummies=#[]:=by
  show (if has t.dummies (sl t.mask h K)=true then _ else t.dummies)=_
  rw [nh,if_neg Bool.false_ne_true];exact T.nd
 have get:∀ i (h2:i < q.1.place.size),(i < q.2/\∃ hi:i < t.place.size,q.1.place[i]=t.place[i])\/(i=q.2/\q.1.place[i]=sl t.mask h K)\/(q.2 < i/\∃ hi:i - 1 < t.place.size,q.1.place[i]=t.place[i - 1]):=λi h2=>by
  have e:=d7' (x:=sl t.mask h K) b1 i
  rw [← q1,← q2,Array.getElem?_eq_getElem h2] at e
  by_cases z1:i < q.2
  ·rw [if_pos z1] at e
   obtain ⟨hi,e⟩:=Array.getElem?_eq_some_iff.mp e.symm
   exact .inl ⟨z1,hi,e.symm⟩
  ·rw [if_neg z1] at e
   by_cases z2:i=q.2
   ·rw [if_pos z2] at e
    exact .inr (.inl ⟨z2,Option.some.inj e⟩)
   ·rw [if_neg z2] at e
    obtain ⟨hi,e⟩:=Array.getElem?_eq_some_iff.mp e.symm
    exact .inr (.inr ⟨by omega,hi,e.symm⟩)
 have sz:q.1.place.size=t.place.size+1:=by rw [q1];exact gd' b1 _
 have ne:∀ i (hi:i < t.place.size),t.place[i]≠sl t.mask h K:=λi hi z=>hK (by rw [← z];exact Array.getElem_mem hi)
 refine ⟨qd,?_,by rw [sz,gd' hp,T.sz],?_,rfl,rfl,rfl,rfl,sz,hp,?_⟩
 ·intro i j hi hj lt
  rcases get i hi with ⟨a1,a2,a3⟩ | ⟨a1,a3⟩ | ⟨a1,a2,a3⟩<;>rcases get j hj with ⟨c1,c2,c3⟩ | ⟨c1,c3⟩ | ⟨c1,c2,c3⟩
  ·rw [a3,c3];exact T.ris i j a2 c2 lt
  ·rw [a3,c3];exact b2 i a2 (by omega)
  ·rw [a3,c3]
   have:=b2 i a2 (by omega)
   have:=b3 (j - 1) c2 (by omega)
   omega
  ·omega
  ·omega
  ·rw [a3,c3]
   have:=b3 (j - 1) c2 (by omega)
   have:=ne (j - 1) c2
   omega
  ·omega
  ·omega
  ·rw [a3,c3];exact T.ris (i - 1) (j - 1) a2 c2 (by omega)
 ·intro i hi
  show _<=t.mask
  rcases get i hi with ⟨a1,a2,a3⟩ | ⟨a1,a3⟩ | ⟨a1,a2,a3⟩
  ·rw [a3];exact T.low _ _
  ·rw [a3];have:=(gS' t.mask h K).1;unfold sl;omega
  ·rw [a3];exact T.low _ _
 ·intro i h1 h2
  have memI:∀ y,y∈t.place->y∈q.1.place:=λy hy=>by rw [q1];exact (lh' b1 _ _).mpr (.inr hy)
  have e:=d7' (x:=(h,x)) hp i
  rw [Array.getElem?_eq_getElem h1] at e
  show ∃ k,sl t.mask _ k=_/\∀ k',k' < k->sl t.mask _ k'∈_
  rcases get i h2 with ⟨a1,a2,a3⟩ | ⟨a1,a3⟩ | ⟨a1,a2,a3⟩
  ·rw [if_pos a1] at e
   obtain ⟨hi,e⟩:=Array.getElem?_eq_some_iff.mp e.symm
   obtain ⟨k,k1,k2⟩:=T.reach i hi a2
   rw [← e,a3]
   exact ⟨k,k1,λk' hk'=>memI _ (k2 k' hk')⟩
  ·rw [if_neg (by omega),if_pos a1] at e
   rw [Option.some.inj e,a3]
   exact ⟨K,rfl,λk' hk'=>memI _ (hk k' hk')⟩
  ·rw [if_neg (by omega),if_neg (by omega)] at e
   obtain ⟨hi,e⟩:=Array.getElem?_eq_some_iff.mp e.symm
   obtain ⟨k,k1,k2⟩:=T.reach (i - 1) hi a2
   rw [← e,a3]
   exact ⟨k,k1,λk' hk'=>memI _ (k2 k' hk')⟩
end
end DL
namespace DL
open PySem PySem.SetTable
def tak (o:Array (Option Nat)) (j:Nat):Bool:=(o.getD j (some 0)).isSome
theorem li' {m:Nat}{o:Array (Option Nat)}{h:Int}:∀ (f c i p:Nat),pth m h c=hd m i p →
  (∃ k,c<=k/\layClean.free m o f i p=some (sl m h k)/\tak o (sl m h k)=false/\∀ k',c<=k'->k' < k->tak o (sl m h k')=true)\/(∀ n,n < f->tak o (lp m n i p).1=true)
 | 0,c,i,p,e=>.inr λn h=>by omega
 | f+1,c,i,p,e=>by
  have run:=λd hd'=>hM' e d hd'
  have at':∀ d,d<=runEnd m i - i->sl m h (c+d)=i+d:=λd hd'=>by unfold sl;rw [run d hd']
  have up:i<=runEnd m i:=by unfold runEnd;split<;>omega
  rw [layClean.free]
  cases hf:(List.range (runEnd m i+1 - i)).find? λk=>(o.getD (i+k) (some 0)).isNone with
  | some d =>
   obtain ⟨d1,d2,d3⟩:=List.find?_range_eq_some.mp hf
   rw [List.mem_range] at d2
   left
   refine ⟨c+d,by omega,?_,?_,λk' a b=>?_⟩
   ·dsimp only
    rw [at' d (by omega)]
   ·rw [at' d (by omega)]
    unfold tak
    cases x:o.getD (i+d) (some 0) with
    | none=>rfl
    | some v=>rw [x] at d1;cases d1
   ·obtain ⟨d',rfl⟩:∃ d',k'=c+d':=⟨k' - c,by omega⟩
    rw [at' d' (by omega)]
    have:=d3 d' (by omega)
    unfold tak
    cases x:o.getD (i+d') (some 0) with
    | none=>rw [x] at this;cases this
    | some v=>rfl
  | none =>
   have no:=List.find?_range_eq_none.mp hf
   have all:∀ k',c<=k'->k' < c+(runEnd m i - i)+1->tak o (sl m h k')=true:=λk' a b=>by
    obtain ⟨d',rfl⟩:∃ d',k'=c+d':=⟨k' - c,by omega⟩
    rw [at' d' (by omega)]
    have:=no d' (by omega)
    unfold tak
    cases x:o.getD (i+d') (some 0) with
    | none=>rw [x] at this;cases this
    | some v=>rfl
   dsimp only
   rcases li' (o:=o) f _ _ _ (jw' e) with ⟨k,k1,k2,k3,k4⟩ | rest
   ·left
    refine ⟨k,by omega,k2,k3,λk' a b=>?_⟩
    by_cases z:k' < c+(runEnd m i - i)+1
    ·exact all k' a z
    ·exact k4 k' (by omega) b
   ·right
    intro n hn
    cases n with
    | zero =>
     have:=all c (Nat.le_refl _) (by omega)
     rw [← Nat.add_zero c,at' 0 (by omega)] at this
     exact this
    | succ n =>
     rw [lp]
     exact rest n (by omega)
theorem en':∀ (k:Nat) (l:List Nat),l.Nodup->(∀ x∈l,x < k)->l.length<=k
 | 0,l,_,h=>by
  cases l with
  | nil=>exact Nat.le_refl _
  | cons x l=>exact absurd (h x List.mem_cons_self) (Nat.not_lt_zero _)
 | k+1,l,nd,h=>by
  by_cases z:k∈l
  ·have:=en' k (l.erase k) (nd.erase k) λx hx=>by
    have h1:=h x (List.mem_of_mem_erase hx)
    have h2:x≠k:=λe=>by
     subst e
     exact (List.Nodup.not_mem_erase nd) hx
    omega
   rw [List.length_erase_of_mem z] at this
   omega
  ·have:=en' k l nd λx hx=>by
    have h1:=h x hx
    have h2:x≠k:=λe=>z (e▸hx)
    omega
   omega
structure Laid (m:Nat) (hs:List Int) (o:Array (Option Nat)) (k:Nat):Prop where
 sz:o.size=m+1
 old:∀ (j v:Nat),o[j]?=some (some v)->v < k
 one:∀ (j j' v:Nat),o[j]?=some (some v)->o[j']?=some (some v)->j=j'
 way:∀ (v:Nat),v < k->∃ (j c:Nat),o[j]?=some (some v)/\sl m (hs.getD v 0) c=j/\∀ c',c' < c->tak o (sl m (hs.getD v 0) c')=true
theorem Laid.room {m:Nat}{hs:List Int}{o:Array (Option Nat)}{k:Nat} (L:Laid m hs o k) (hk:k<=m):∃ j,j < m+1/\tak o j=false:=by
 apply Classical.byContradiction
 intro no
 have all:∀ j,j < m+1->∃ v,o[j]?=some (some v):=λj hj=>by
  have t:tak o j=true:=by
   cases x:tak o j with
   | true=>rfl
   | false=>exact absurd ⟨j,hj,x⟩ no
  unfold tak at t
  rw [Array.getD,dif_pos (by rw [L.sz];exact hj)] at t
  rw [Array.getElem?_eq_getElem (by rw [L.sz];exact hj)]
  cases x:o[j]'(by rw [L.sz];exact hj) with
  | none=>simp [x] at t
  | some v=>exact ⟨v,rfl⟩
 have nd:((List.range (m+1)).map λj=>((o[j]?).bind id).getD 0).Nodup:=by
  unfold List.Nodup
  rw [List.pairwise_map]
  refine List.Pairwise.imp_of_mem ?_ List.nodup_range
  intro a b ha hb ne e
  obtain ⟨v,hv⟩:=all a (List.mem_range.mp ha)
  obtain ⟨v',hv'⟩:=all b (List.mem_range.mp hb)
  rw [hv,hv'] at e
  have e:v=v':=e
  subst e
  exact ne (L.one a b v hv hv')
 have:=en' k _ nd λx hx=>by
  obtain ⟨j,hj,rfl⟩:=List.mem_map.mp hx
  obtain ⟨v,hv⟩:=all j (List.mem_range.mp hj)
  rw [hv]
  exact L.old j v hv
 rw [List.length_map,List.length_range] at this
 omega
theorem Laid.step {m:Nat} (R:Round m){hs:List Int}{o:Array (Option Nat)}{k:Nat} (L:Laid m hs o k) (hk:k<=m):∃ j,layClean.free m o (turns m) (bits (hs.getD k 0) % (m+1)) (bits (hs.getD k 0))=some j/\Laid m hs (o.setIfInBounds j (some k)) (k+1):=by
 rcases li' (m:=m) (o:=o) (h:=hs.getD k 0) (turns m) 0 _ _ rfl with ⟨K,_,k2,k3,k4⟩ | full
 ·refine ⟨_,k2,?_⟩
  have hj:sl m (hs.getD k 0) K < o.size:=by
   rw [L.sz]
   have:=(gS' m (hs.getD k 0) K).1
   unfold sl
   omega
  have free:o[sl m (hs.getD k 0) K]?=some none:=by
   unfold tak at k3
   rw [Array.getD_eq_getD_getElem?,Array.getElem?_eq_getElem hj] at k3
   rw [Array.getElem?_eq_getElem hj]
   cases x:o[sl m (hs.getD k 0) K] with
   | none=>rfl
   | some v=>rw [x] at k3;cases k3
  have get:∀ i,(o.setIfInBounds (sl m (hs.getD k 0) K) (some k))[i]?=if sl m (hs.getD k 0) K=i then some (some k) else o[i]?:=λi=>by
   rw [Array.getElem?_setIfInBounds]
   split
   ·rename_i e
    subst e
    simp [hj]
   ·rfl
  have more:∀ i,tak o i=true->tak (o.setIfInBounds (sl m (hs.getD k 0) K) (some k)) i=true:=λi hi=>by
   unfold tak at hi ⊢
   rw [Array.getD_eq_getD_getElem?] at hi ⊢
   rw [get]
   split
   ·rfl
   ·exact hi
  refine ⟨by rw [Array.size_setIfInBounds];exact L.sz,λj v e=>?_,λj j' v e e'=>?_,λv hv=>?_⟩
  ·rw [get] at e
   split at e
   ·cases e;omega
   ·have:=L.old j v e;omega
  ·rw [get] at e e'
   split at e
   ·cases e
    split at e'
    ·omega
    ·have:=L.old j' k e';omega
   ·split at e'
    ·cases e'
     have:=L.old j k e;omega
    ·exact L.one j j' v e e'
  ·by_cases z:v=k
   ·subst z
    exact ⟨_,K,by rw [get,if_pos rfl],rfl,λc' hc'=>more _ (k4 c' (Nat.zero_le _) hc')⟩
   ·obtain ⟨j,c,e1,e2,e3⟩:=L.way v (by omega)
    refine ⟨j,c,?_,e2,λc' hc'=>more _ (e3 c' hc')⟩
    rw [get,if_neg ?_]
    ·exact e1
    ·intro e
     subst e
     rw [free] at e1
     cases e1
 ·obtain ⟨j,hj,tj⟩:=L.room hk
  obtain ⟨n,n1,n2⟩:=nq' R (hs.getD k 0) hj
  have:=full n (by unfold turns;omega)
  rw [n2,tj] at this
  cases this
theorem kt' {m:Nat} (R:Round m) (hs:List Int) (hm:hs.length<=m):∃ o,layClean m hs.toArray=some o/\Laid m hs o hs.length:=by
 unfold layClean
 rw [← Array.foldl_toList]
 have key:∀ (l pre:List Int) (o:Array (Option Nat)),hs=pre++l->Laid m hs o pre.length->∃ o',List.foldl (λacc h=>do
   let (owner,k) ← acc
   let j ← layClean.free m owner (turns m) (bits h % (m+1)) (bits h)
   pure (owner.setIfInBounds j (some k),k+1)) (some (o,pre.length)) l=some (o',hs.length)/\Laid m hs o' hs.length:=by
  intro l
  induction l with
  | nil =>
   intro pre o e L
   rw [List.append_nil] at e
   subst e
   exact ⟨o,rfl,L⟩
  | cons h l ih =>
   intro pre o e L
   have gk:hs.getD pre.length 0=h:=by rw [e,List.getD_eq_getElem?_getD];simp
   have lk:pre.length<=m:=by
    have:=congrArg List.length e
    simp at this
    omega
   obtain ⟨j,j1,j2⟩:=L.step R lk
   rw [gk] at j1
   obtain ⟨o',h1,h2⟩:=ih (pre++[h]) (o.setIfInBounds j (some pre.length)) (by rw [e];simp) (by simpa using j2)
   refine ⟨o',?_,h2⟩
   rw [List.foldl_cons,← h1]
   congr 1
   show (layClean.free m o (turns m) (bits h % (m+1)) (bits h)).bind _=_
   rw [j1]
   simp
 have none':∀ (j v:Nat),(Array.replicate (m+1) (none:Option Nat))[j]?=some (some v)->False:=λj v e=>by
  rw [Array.getElem?_replicate] at e
  split at e
  ·cases e
  ·cases e
 obtain ⟨o',h1,h2⟩:=key hs [] (Array.replicate (m+1) none) rfl ⟨by simp,λj v e=>(none' j v e).elim,λj j' v e=>(none' j v e).elim,λv hv=>absurd hv (Nat.not_lt_zero _)⟩
 exact ⟨o',by
  have:=congrArg (Option.map (·.1)) h1
  exact this,h2⟩
theorem p4' {es:Array (Int×Value)}{m:Nat} (R:Round m) (few:(m=31/\es.size<=18)\/(m=127/\es.size<=60)) (finger moves:Nat) (led:Bool):∃ t order,laid m finger moves led true (es.map (·.1))=some (t,order)/\(order.filterMap (es[·]?)).size=es.size/\TabOk t (order.filterMap (es[·]?))/\t.mask=m/\t.led=led ∧
  (∀ x,x∈order.filterMap (es[·]?)↔x∈es):=by
 obtain ⟨o,h1,L⟩:=kt' R (es.map (·.1)).toList (by simp;omega)
 rw [Array.toArray_toList] at h1
 have nl:(es.map (·.1)).toList.length=es.size:=by simp
 rw [nl] at L
 obtain ⟨live,elive⟩:∃ live:List (Nat×Nat),live=(List.range (m+1)).filterMap λj=>(o.getD j none).map (j,·):=⟨_,rfl⟩
 have mem:∀ j v,(j,v)∈live↔o[j]?=some (some v):=λj v=>by
  rw [elive,List.mem_filterMap]
  constructor
  ·rintro ⟨a,ha,e⟩
   rw [Array.getD_eq_getD_getElem?] at e
   cases x:o[a]? with
   | none=>rw [x] at e;cases e
   | some w =>
    rw [x] at e
    cases w with
    | none=>cases e
    | some w=>cases e;exact x
  ·intro e
   have:=(Array.getElem?_eq_some_iff.mp e).1
   refine ⟨j,List.mem_range.mpr (by rw [L.sz] at this;exact this),?_⟩
   rw [Array.getD_eq_getD_getElem?,e]
   rfl
 have ris:live.Pairwise λa b=>a.1 < b.1:=by
  rw [elive,List.pairwise_filterMap]
  refine List.Pairwise.imp ?_ List.pairwise_lt_range
  intro a b lt x hx y hy
  cases e:o.getD a none with
  | none=>rw [e] at hx;cases hx
  | some v =>
   rw [e] at hx
   cases hx
   cases e':o.getD b none with
   | none=>rw [e'] at hy;cases hy
   | some v'=>rw [e'] at hy;cases hy;exact lt
 have snd:(live.map (·.2)).Nodup:=by
  unfold List.Nodup
  rw [List.pairwise_map]
  refine List.Pairwise.imp_of_mem ?_ ris
  intro a b ha hb lt e
  have h1:=(mem a.1 a.2).mp ha
  have h2:=(mem b.1 b.2).mp hb
  rw [e] at h1
  have:=L.one _ _ _ h1 h2
  omega
 have lo:live.length=es.size:=by
  refine Nat.le_antisymm ?_ ?_
  ·have:=en' es.size (live.map (·.2)) snd λx hx=>by
    obtain ⟨q,hq,rfl⟩:=List.mem_map.mp hx
    exact L.old q.1 q.2 ((mem _ _).mp hq)
   simpa using this
  ·have:=jx' es.size (live.map (·.2)) λv hv=>by
    obtain ⟨j,c,e,_⟩:=L.way v hv
    exact List.mem_map.mpr ⟨(j,v),(mem j v).mpr e,rfl⟩
   simpa using this
 have low:∀ q∈live,q.2 < es.size:=λq hq=>L.old q.1 q.2 ((mem _ _).mp hq)
 have out:((live.map (·.2)).toArray.filterMap (es[·]?)).toList=live.map λq=>es[q.2]?.getD (0,Value.none):=by
  rw [Array.toList_filterMap]
  show (live.map (·.2)).filterMap (es[·]?)=_
  clear lo snd ris mem elive
  induction live with
  | nil=>rfl
  | cons q live ih =>
   have hq:=low q List.mem_cons_self
   rw [List.map_cons,List.filterMap_cons,Array.getElem?_eq_getElem hq,List.map_cons,Array.getElem?_eq_getElem hq]
   rw [ih λq hq=>low q (List.mem_cons_of_mem _ hq)]
   rfl
 refine ⟨{ mask:=m,place:=(live.map (·.1)).toArray,dummies:=#[],finger,led,moves,plain:=true },(live.map (·.2)).toArray,?_,?_,?_,rfl,rfl,λx=>?_⟩
 ·unfold laid
  rw [h1]
  show some _=some _
  rw [elive]
 ·rw [← Array.length_toList,out,List.length_map,lo]
 ·have osz:((live.map (·.2)).toArray.filterMap (es[·]?)).size=live.length:=by rw [← Array.length_toList,out,List.length_map]
  have oat:∀ i (h1:i < ((live.map (·.2)).toArray.filterMap (es[·]?)).size) (h2:i < live.length),((live.map (·.2)).toArray.filterMap (es[·]?))[i]=es[live[i].2]?.getD (0,Value.none):=λi h1 h2=>by
   rw [← Array.getElem_toList]
   have:((live.map (·.2)).toArray.filterMap (es[·]?)).toList[i]'(by rw [Array.length_toList];exact h1)=(live.map λq=>es[q.2]?.getD (0,Value.none))[i]'(by simpa using h2):=by
    congr 1
   rw [this,List.getElem_map]
  refine ⟨rfl,λi j hi hj lt=>?_,?_,λi hi=>?_,⟨?_,?_⟩,rfl,λi h1 h2=>?_⟩
  ·simp at hi hj
   simp only [List.getElem_toArray,List.getElem_map]
   exact (List.pairwise_iff_getElem.mp ris) i j hi hj lt
  ·rw [osz];simp
  ·simp at hi
   simp only [List.getElem_toArray,List.getElem_map]
   have:=(mem live[i].1 live[i].2).mp (List.getElem_mem hi)
   have:=(Array.getElem?_eq_some_iff.mp this).1
   rw [L.sz] at this
   show _<=m
   omega
  ·simp;omega
  ·have ll:(live.map (·.1)).toArray.size=live.length:=by simp
   show m=127\/(m=31/\(live.map (·.1)).toArray.size<=18)\/(m=7/\_)
   rcases few with z | z
   ·exact .inr (.inl ⟨z.1,by rw [ll];omega⟩)
   ·exact .inl z.1
  ·have h2':i < live.length:=by simpa using h2
   rw [oat i h1 h2']
   simp only [List.getElem_toArray,List.getElem_map]
   have m1:=(mem live[i].1 live[i].2).mp (List.getElem_mem h2')
   have v1:=low live[i] (List.getElem_mem h2')
   obtain ⟨j,c,e1,e2,e3⟩:=L.way live[i].2 v1
   have:j=live[i].1:=L.one _ _ _ e1 m1
   subst this
   have hh:(es.map (·.1)).toList.getD live[i].2 0=es[live[i].2].1:=by
    rw [List.getD_eq_getElem?_getD]
    simp [v1]
   rw [hh] at e2 e3
   rw [Array.getElem?_eq_getElem v1]
   refine ⟨c,e2,λc' hc'=>?_⟩
   have tk:=e3 c' hc'
   unfold tak at tk
   have lt:=(gS' m es[live[i].2].1 c').1
   have lt:sl m es[live[i].2].1 c' < o.size:=by rw [L.sz];unfold sl;omega
   rw [Array.getD,dif_pos lt] at tk
   show sl m es[live[i].2].1 c'∈_
   cases x:o[sl m es[live[i].2].1 c'] with
   | none=>simp [x] at tk
   | some v =>
    have:(sl m es[live[i].2].1 c',v)∈live:=(mem _ _).mpr (by rw [Array.getElem?_eq_getElem lt,x])
    simp only [List.mem_toArray,List.mem_map]
    exact ⟨_,this,rfl⟩
 ·rw [← Array.mem_toList_iff,out,List.mem_map]
  constructor
  ·rintro ⟨q,hq,rfl⟩
   rw [Array.getElem?_eq_getElem (low q hq)]
   exact Array.getElem_mem _
  ·intro hx
   obtain ⟨v,hv,rfl⟩:=Array.getElem_of_mem hx
   obtain ⟨j,c,e,_⟩:=L.way v hv
   refine ⟨(j,v),(mem j v).mpr e,?_⟩
   dsimp only
   rw [Array.getElem?_eq_getElem hv]
   rfl
end DL
namespace DL
open PySem PySem.W PySem.Spec PyProof.Rows L2
mutual
def KV (h:Heap):D->Value->Prop
 | .int i,u=>∃ t,u=.int i t
 | .tup ds,u=>∃ a o its e,u=.ref a/\h.get? a=some o/\o.cls=.type "tuple"/\o.data=.seq (its:List Value).toArray e/\KVs h ds its
 | _,_=>False
def KVs (h:Heap):List D->List Value->Prop
 | [],[]=>True
 | d::ds,u::us=>KV h d u/\KVs h ds us
 | _,_=>False
end
mutual
def kyB:D->Bool
 | .int _=>true
 | .tup ds=>kyA ds
 | _=>false
def kyA:List D->Bool
 | []=>true
 | d::ds=>kyB d&&kyA ds
end
section
variable {X:Cx}{pins:List (Addr×Obj)}{σ:L2.St}{H:Hp}{s:Shared}
mutual
theorem lX' (I:Inv X pins σ H s):∀ (d:D) (x:V) (u:Value),kyB d=true->Is X.K H d x->RelV x u->KV s.heap d u
 | .int i,x,u,_,h,r=>by
  rw [am' h] at r
  obtain ⟨t,rfl⟩:=r
  rw [KV]
  exact ⟨t,rfl⟩
 | .tup ds,x,u,ky,h,r=>by
  obtain ⟨a,xs,rfl,h1,h2⟩:=as' h
  cases r
  obtain ⟨its,r1,t1,_⟩:=I.tuple h1
  obtain ⟨o,e1,e2,n,e3⟩:=t1
  rw [kyB] at ky
  rw [KV]
  exact ⟨a,o,its,n,rfl,e1,e2,e3,nv' I ds xs its ky h2 r1⟩
 | .non,_,_,ky,_,_=>by simp [kyB] at ky
 | .bl _,_,_,ky,_,_=>by simp [kyB] at ky
 | .str _,_,_,ky,_,_=>by simp [kyB] at ky
 | .lst _,_,_,ky,_,_=>by simp [kyB] at ky
theorem nv' (I:Inv X pins σ H s):∀ (ds:List D) (xs:List V) (us:List Value),kyA ds=true->IsA X.K H ds xs->Vals xs us->KVs s.heap ds us
 | [],xs,us,_,h,r=>by
  have:=h.nil_inv;subst this
  cases r
  rw [KVs];trivial
 | d::ds,xs,us,ky,h,r=>by
  obtain ⟨x,xr,rfl,h1,h2⟩:=h.cons_inv
  cases r with
  | cons r1 r2 =>
   rw [kyA,Bool.and_eq_true] at ky
   rw [KVs]
   exact ⟨lX' I d x _ ky.1 h1 r1,nv' I ds xr _ ky.2 h2 r2⟩
end
end
section
variable {prog:Program}{w:World}{E:Value->Shared->Prop}
mutual
def hD:D->Int
 | .int i=>hashInt i
 | .tup ds=>reduceHash (Builtin.Tuple.tupleHashOf (hDs ds))
 | _=>0
def hDs:List D->List Int
 | []=>[]
 | d::ds=>hD d::hDs ds
end
mutual
theorem lj':∀ (d:D) (u:Value) (A:Around) (s:Shared) (Q:Int->Shared->Prop),KV s.heap d u->A.units+dep d < cLine->(∀ tk,Q (hD d) { s with toks:=tk })->wpAny (model prog w) A (pyHash u) Q E s
 | .int i,u,A,s,Q,x,hu,q=>by
  rw [KV] at x
  obtain ⟨t,rfl⟩:=x
  exact wpAny_pyHash_int (by have:=q (s.toks+1);rw [hD] at this;exact this)
 | .tup ds,u,A,s,Q,x,hu,q=>by
  rw [KV] at x
  obtain ⟨a,o,its,e,rfl,x1,x2,x3,x4⟩:=x
  rw [dep] at hu
  refine pyHash_slot (T := "tuple") ⟨o,x1,x2⟩ F.slot_tuple_hash F.entry_tuple_hash (F.args_tuple_hash_1 _) (beq_builtin_none _) (.inr (by omega)) ?_
  refine wpAny_bind (m:=Builtin.Tuple.tupleItemsOf (.ref a)) (wpAny_tupleItemsOf x1 x3 (wpAny_bind ?_))
  rw [← Array.forIn_toList]
  refine jz' ds its A.in1 s #[] _ x4 (by show A.units+1+_ < _;omega) λtk b hb=>?_
  refine wpAny_bind (m:=mkInt (Builtin.Tuple.tupleHashOf b.toList)) (wpAny_mkInt (wpAny_pure ⟨_,_,rfl,?_⟩))
  rw [hb]
  have:=q (tk+1)
  rw [hD] at this
  exact this
 | .non,_,_,_,_,x,_,_=>by simp [KV] at x
 | .bl _,_,_,_,_,x,_,_=>by simp [KV] at x
 | .str _,_,_,_,_,x,_,_=>by simp [KV] at x
 | .lst _,_,_,_,_,x,_,_=>by simp [KV] at x
theorem jz':∀ (ds:List D) (us:List Value) (A:Around) (s:Shared) (b:Array Int) (Q:Array Int->Shared->Prop),KVs s.heap ds us->A.units+depA ds < cLine->(∀ tk b',b'.toList=b.toList++hDs ds->Q b' { s with toks:=tk }) →
  wpAny (model prog w) A (forIn us b λx r=>do let h ← pyHash x;pure PUnit.unit;pure (ForInStep.yield (r.push h))) Q E s
 | [],us,A,s,b,Q,x,hu,q=>by
  cases us with
  | cons u us=>simp [KVs] at x
  | nil =>
   rw [List.forIn_nil]
   exact wpAny_pure (q s.toks b (by simp [hDs]))
 | d::ds,us,A,s,b,Q,x,hu,q=>by
  cases us with
  | nil=>simp [KVs] at x
  | cons u us =>
   rw [KVs] at x
   rw [depA] at hu
   rw [List.forIn_cons]
   refine wpAny_bind (wpAny_bind (lj' d u A s _ x.1 (by omega) λtk=>wpAny_bind (wpAny_pure (wpAny_pure ?_))))
   exact jz' ds us A { s with toks:=tk } _ Q x.2 (by omega) λtk' b' hb=>q tk' b' (by rw [hb,hDs];simp)
end
mutual
theorem ge':∀ (d:D) (u:Value) (n:Nat) (A:Around) (s:Shared) (Q:Bool->Shared->Prop),KV s.heap d u->dep d<=n->Q true s->wpAny (model prog w) A (eqIsQuiet n u) Q E s
 | .int i,u,n,A,s,Q,x,hn,q=>by
  rw [KV] at x
  obtain ⟨t,rfl⟩:=x
  exact wpAny_of_eq (eqIsQuiet_byValue n rfl) q
 | .tup ds,u,n,A,s,Q,x,hn,q=>by
  rw [KV] at x
  obtain ⟨a,o,its,e,rfl,x1,x2,x3,x4⟩:=x
  rw [dep] at hn
  obtain ⟨n,rfl⟩:∃ k,n=k+1:=⟨n - 1,by omega⟩
  have hT:s.TypeIs (.ref a) "tuple":=⟨o,x1,x2⟩
  unfold eqIsQuiet
  refine wpAny_bind (wpAny_specialOf hT F.slot_tuple_eq.lookup ?_)
  refine wpAny_bind (m:=isInstance (.ref a) (.type "tuple")) (wpAny_isInstance hT isSubtype_tuple_tuple ?_)
  simp only [Bool.not_true,Bool.false_eq_true,if_false]
  refine wpAny_bind (wpAny_seqItems x1 x3 (wpAny_bind ?_))
  show wpAny _ _ (forIn its.toArray _ _) _ _ s
  rw [← Array.forIn_toList]
  refine ix' ds its n A s _ x4 (by omega) ?_
  exact wpAny_pure q
 | .non,_,_,_,_,_,x,_,_=>by simp [KV] at x
 | .bl _,_,_,_,_,_,x,_,_=>by simp [KV] at x
 | .str _,_,_,_,_,_,x,_,_=>by simp [KV] at x
 | .lst _,_,_,_,_,_,x,_,_=>by simp [KV] at x
theorem ix':∀ (ds:List D) (us:List Value) (n:Nat) (A:Around) (s:Shared) (Q:Option Bool×PUnit->Shared->Prop),KVs s.heap ds us->depA ds<=n->Q (none,()) s →
  wpAny (model prog w) A (forIn us (none,()) λy r=>do
   let __do_lift ← eqIsQuiet n y
   if (!__do_lift)=true then pure (ForInStep.done (some false,())) else do pure PUnit.unit;pure (ForInStep.yield (none,()))) Q E s
 | [],us,n,A,s,Q,x,hn,q=>by
  cases us with
  | cons u us=>simp [KVs] at x
  | nil =>
   rw [List.forIn_nil]
   exact wpAny_pure q
 | d::ds,us,n,A,s,Q,x,hn,q=>by
  cases us with
  | nil=>simp [KVs] at x
  | cons u us =>
   rw [KVs] at x
   rw [depA] at hn
   rw [List.forIn_cons]
   refine wpAny_bind (wpAny_bind (ge' d u n A s _ x.1 (by omega) ?_))
   rw [if_neg (by simp)]
   refine wpAny_bind (wpAny_pure (wpAny_pure ?_))
   exact ix' ds us n A s Q x.2 (by omega) q
end
mutual
theorem gf':∀ (d:D) (u:Value) (n:Nat) (A:Around) (s:Shared) (Q:Bool->Shared->Prop),KV s.heap d u->dep d<=n->Q false s->wpAny (model prog w) A (ofAClassStatement n u) Q E s
 | .int i,u,n,A,s,Q,x,hn,q=>by
  rw [KV] at x
  obtain ⟨t,rfl⟩:=x
  unfold ofAClassStatement
  exact wpAny_pure q
 | .tup ds,u,n,A,s,Q,x,hn,q=>by
  rw [KV] at x
  obtain ⟨a,o,its,e,rfl,x1,x2,x3,x4⟩:=x
  rw [dep] at hn
  obtain ⟨n,rfl⟩:∃ k,n=k+1:=⟨n - 1,by omega⟩
  have look:Looks (model prog w) s.heap (typeOf (.ref a)) o.cls:=(Looks.ld x1).andThen .now
  rw [x2] at look
  unfold ofAClassStatement
  refine wpAny_bind (look.here ?_)
  dsimp only
  rw [if_pos (by decide)]
  refine wpAny_bind (wpAny_pure ?_)
  simp only [Bool.not_true,Bool.false_eq_true,if_false]
  refine wpAny_bind (wpAny_seqItems x1 x3 (wpAny_bind ?_))
  show wpAny _ _ (forIn its.toArray _ _) _ _ s
  rw [← Array.forIn_toList]
  refine iy' ds its n A s _ x4 (by omega) ?_
  exact wpAny_pure q
 | .non,_,_,_,_,_,x,_,_=>by simp [KV] at x
 | .bl _,_,_,_,_,_,x,_,_=>by simp [KV] at x
 | .str _,_,_,_,_,_,x,_,_=>by simp [KV] at x
 | .lst _,_,_,_,_,_,x,_,_=>by simp [KV] at x
theorem iy':∀ (ds:List D) (us:List Value) (n:Nat) (A:Around) (s:Shared) (Q:Option Bool×PUnit->Shared->Prop),KVs s.heap ds us->depA ds<=n->Q (none,()) s →
  wpAny (model prog w) A (forIn us (none,()) λy r=>do
   let __do_lift ← ofAClassStatement n y
   if __do_lift=true then pure (ForInStep.done (some true,())) else do pure PUnit.unit;pure (ForInStep.yield (none,()))) Q E s
 | [],us,n,A,s,Q,x,hn,q=>by
  cases us with
  | cons u us=>simp [KVs] at x
  | nil =>
   rw [List.forIn_nil]
   exact wpAny_pure q
 | d::ds,us,n,A,s,Q,x,hn,q=>by
  cases us with
  | nil=>simp [KVs] at x
  | cons u us =>
   rw [KVs] at x
   rw [depA] at hn
   rw [List.forIn_cons]
   refine wpAny_bind (wpAny_bind (gf' d u n A s _ x.1 (by omega) ?_))
   rw [if_neg Bool.false_ne_true]
   refine wpAny_bind (wpAny_pure (wpAny_pure ?_))
   exact iy' ds us n A s Q x.2 (by omega) q
end
mutual
theorem jA':∀ (d:D) (u:Value) (n:Nat) (A:Around) (s:Shared) (Q:Bool->Shared->Prop),KV s.heap d u->dep d<=n->Q true s->wpAny (model prog w) A (hashByValue n u) Q E s
 | .int i,u,n,A,s,Q,x,hn,q=>by
  rw [KV] at x
  obtain ⟨t,rfl⟩:=x
  unfold hashByValue
  exact wpAny_pure q
 | .tup ds,u,n,A,s,Q,x,hn,q=>by
  rw [KV] at x
  obtain ⟨a,o,its,e,rfl,x1,x2,x3,x4⟩:=x
  rw [dep] at hn
  obtain ⟨n,rfl⟩:∃ k,n=k+1:=⟨n - 1,by omega⟩
  have hT:s.TypeIs (.ref a) "tuple":=⟨o,x1,x2⟩
  unfold hashByValue
  refine wpAny_bind (wpAny_specialOf hT F.slot_tuple_hash.lookup ?_)
  refine wpAny_bind (m:=seqItems? (.ref a)) (wpAny_seqItems x1 x3 (wpAny_bind ?_))
  show wpAny _ _ (forIn its.toArray _ _) _ _ s
  rw [← Array.forIn_toList]
  refine iz' ds its n A s _ x4 (by omega) ?_
  exact wpAny_pure q
 | .non,_,_,_,_,_,x,_,_=>by simp [KV] at x
 | .bl _,_,_,_,_,_,x,_,_=>by simp [KV] at x
 | .str _,_,_,_,_,_,x,_,_=>by simp [KV] at x
 | .lst _,_,_,_,_,_,x,_,_=>by simp [KV] at x
theorem iz':∀ (ds:List D) (us:List Value) (n:Nat) (A:Around) (s:Shared) (Q:Option Bool×PUnit->Shared->Prop),KVs s.heap ds us->depA ds<=n->Q (none,()) s →
  wpAny (model prog w) A (forIn us (none,()) λy r=>do
   let __do_lift ← hashByValue n y
   if (!__do_lift)=true then pure (ForInStep.done (some false,())) else do pure PUnit.unit;pure (ForInStep.yield (none,()))) Q E s
 | [],us,n,A,s,Q,x,hn,q=>by
  cases us with
  | cons u us=>simp [KVs] at x
  | nil =>
   rw [List.forIn_nil]
   exact wpAny_pure q
 | d::ds,us,n,A,s,Q,x,hn,q=>by
  cases us with
  | nil=>simp [KVs] at x
  | cons u us =>
   rw [KVs] at x
   rw [depA] at hn
   rw [List.forIn_cons]
   refine wpAny_bind (wpAny_bind (jA' d u n A s _ x.1 (by omega) ?_))
   rw [if_neg (by simp)]
   refine wpAny_bind (wpAny_pure (wpAny_pure ?_))
   exact iz' ds us n A s Q x.2 (by omega) q
end
end
end DL
namespace DL
open PySem PySem.W PySem.Spec PyProof.Rows L2 PySem.SetTable
section
variable {prog:Program}{w:World}{A:Around}{E:Value->Shared->Prop}{s:Shared}
theorem TabOk.fits {t:SetTable}{es:Array (Int×Value)} (T:TabOk t es):t.fits es.size=true:=by
 have:=T.few
 have:=T.sz
 unfold SetTable.fits SetTable.fill
 rw [T.nd]
 simp [T.sz]
 omega
theorem TabOk.gave {t:SetTable}{es:Array (Int×Value)} (T:TabOk t es):t.gaveWay=false:=by
 unfold gaveWay
 rcases T.few.2 with h | h | h
 ·rw [h];decide
 ·rw [h.1];decide
 ·rw [h.1];decide
theorem nw' {a:Addr}{o:Obj}{es:Array (Int×Value)}{ep:Nat}{t:SetTable} (ho:s.heap.get? a=some o) (hdt:o.data=.set es ep t) (T:TabOk t es){x:Value}{h:Int}{eqf:Nat->Bool}
  (refs:∀ i (hi:i < es.size),∃ b,es[i].2=.ref b) (eq:∀ i (hi:i < es.size),es[i].1=h->PySem.SeqAt.EqAt A s es[i].2 x (eqf i))
  (seen:t.led=false->∀ Q:Bool->Shared->Prop,Q false s->wpAny (model prog w) A (searchCouldBeSeen x ((es.filter (·.1 == h)).toList.map (·.2))) Q E s)
  {K:Nat} (hK:sl t.mask h K∉t.place) (hk:∀ k,k < K->sl t.mask h k∈t.place) (hK2:K < 10*(t.mask+14)){Q:SetFound->Shared->Prop}
  (found:∀ i (hi:i < es.size),es[i].1=h->eqf i=true->Q (.there none) s) (free:(∀ i (hi:i < es.size),es[i].1=h->eqf i=false)->Q (.free (sl t.mask h K) false) s) :
  ∀ (f k:Nat) (stand:Option Probe),k<=K->K - k < f->stand.getD (t.probeStart h)=pth t.mask h k->(∀ k'',k'' < k->∀ j (hj:j < es.size) (hj':j < t.place.size),t.place[j]=sl t.mask h k''->es[j].1=h->eqf j=false) →
   wpAny (model prog w) A (setSearchFrom a x h true f stand) Q E s:=by
 intro f
 induction f with
 | zero=>intro k stand h1 h2;omega
 | succ f ih =>
  intro k stand h1 h2 hs past
  unfold setSearchFrom
  refine wpAny_bind (wpAny_setState_of ho hdt T.fits ?_)
  dsimp only
  rw [T.gave,if_neg Bool.false_ne_true]
  have pr:∀ m,probe.go t (hA es) h (10*turns t.mask) (pth t.mask h k)=some m->t.probe (W.hashAt es) h (stand.getD (t.probeStart h))=some m:=λm e=>by
   rw [hs]
   exact e
  rcases jy' T hK hk (10*turns t.mask) k h1 (by unfold turns;omega) with ⟨k',i,hi,hi',a1,a2,a3,a4,a5,a6⟩ | ⟨a1,a2⟩
  ·have e:=pr _ a5
   change t.probe _ h _=_ at e
   have e':t.probe (λi=>(es[i]?.map (·.1)).getD 0) h (stand.getD (t.probeStart h))=some (.candidate (sl t.mask h k') i (pth t.mask h (k'+1))):=e
   show wpAny _ _ (match t.probe (λi=>(es[i]?.map (·.1)).getD 0) h (stand.getD (t.probeStart h)) with | some met=>_ | _=>_) _ _ _
   rw [e']
   dsimp only
   obtain ⟨b,eb⟩:=refs i hi
   have gi:es[i]?=some es[i]:=Array.getElem?_eq_getElem hi
   have sli:t.slot (sl t.mask h k')=.live i:=by rw [← a3];exact iv' T.ris hi'
   have eqi:=eq i hi a4
   rw [eb] at eqi
   have ask:t.led=true\/t.led=false:=by cases t.led<;>simp
   rcases ask with led | led
   all_goals
    first
     | (rw [led,Bool.not_true,if_neg Bool.false_ne_true])
     | (rw [led,Bool.not_false,if_pos rfl];refine wpAny_bind (seen led _ ?_);rw [if_neg Bool.false_ne_true])
    rw [gi]
    dsimp only
    rw [eb]
    refine wpAny_bind (wpAny_holding (eqi prog w _ _ (wpAny_bind (wpAny_setState_of ho hdt T.fits ?_))))
    dsimp only
    cases c:eqf i with
    | true =>
     rw [if_pos (by rfl)]
     exact wpAny_pure (found i hi a4 c)
    | false =>
     rw [if_neg (by decide)]
     have sm:t.sameMemory t.moves t.mask=some true:=by unfold sameMemory;simp
     rw [sm]
     dsimp only
     rw [if_pos rfl,sli]
     dsimp only
     rw [gi]
     dsimp only
     rw [eb]
     refine wpAny_bind (wpAny_isSame_ref_self (wpAny_bind (wpAny_pure ?_)))
     rw [if_pos rfl]
     dsimp only
     rw [if_neg Bool.false_ne_true]
     refine ih (k'+1) _ (by omega) (by omega) rfl λk'' b1 j hj hj' ej hh=>?_
     by_cases z1:k'' < k
     ·exact past k'' z1 j hj hj' ej hh
     ·by_cases z2:k''=k'
      ·have:j=i:=by
        rw [z2,← a3] at ej
        rcases Nat.lt_trichotomy j i with l | l | l
        ·have:=T.ris j i hj' hi' l;omega
        ·exact l
        ·have:=T.ris i j hi' hj' l;omega
       subst this
       exact c
      ·exact absurd hh (a6 k'' (by omega) (by omega) j hj hj' ej)
  ·have e':t.probe (λi=>(es[i]?.map (·.1)).getD 0) h (stand.getD (t.probeStart h))=some (.empty (sl t.mask h K) none):=pr _ a1
   show wpAny _ _ (match t.probe (λi=>(es[i]?.map (·.1)).getD 0) h (stand.getD (t.probeStart h)) with | some met=>_ | _=>_) _ _ _
   rw [e']
   dsimp only
   refine wpAny_pure (free λi hi hh=>?_)
   have hi':i < t.place.size:=by rw [T.sz];exact hi
   obtain ⟨c,c1,c2⟩:=T.reach i hi hi'
   rw [hh] at c1 c2
   have cK:c < K:=by
    rcases Nat.lt_trichotomy c K with l | l | l
    ·exact l
    ·subst l
     exact absurd (by rw [c1];exact Array.getElem_mem hi') hK
    ·exact absurd (c2 K l) hK
   by_cases z:c < k
   ·exact past c z i hi hi' c1.symm hh
   ·exact absurd hh (a2 c (by omega) cK i hi hi' c1.symm)
end
end DL
namespace DL
open PySem PySem.W PySem.Spec PyProof.Rows L2 PySem.SetTable
section
variable {prog:Program}{w:World}{A:Around}{E:Value->Shared->Prop}{s:Shared}
def SetAt (h:Heap) (a:Addr) (led:Bool) (es:Array (Int×Value)):Prop:=∃ o ep t,h.get? a=some o/\o.cls=.type "set"/\o.data=.set es ep t/\TabOk t es/\t.led=led
theorem lk' {h:Heap}{a:Addr}{o:Obj}{es es':Array (Int×Value)}{ep:Nat}{t t':SetTable} (ho:h.get? a=some o) (hd:o.data=.set es ep t):(h.update a (Obj.putSet es' t')).get? a=some { o with data:=.set es' (ep+1) t' }:=by
 have e:=putSet_of es' t' hd
 have:=Heap.get?_update_self (Obj.putSet es' t') ho (by rw [e];rfl)
 rw [e] at this
 exact this
theorem rx' {a:Addr}{led:Bool}{es:Array (Int×Value)}{b:Addr}{h:Int}{eqf:Nat->Bool}{Q:Bool->Shared->Prop} (S:SetAt s.heap a led es) (few:(∀ i (hi:i < es.size),es[i].1=h->eqf i=false)->es.size<=59)
  (refs:∀ i (hi:i < es.size),∃ b,es[i].2=.ref b) (eq:∀ i (hi:i < es.size),es[i].1=h->PySem.SeqAt.EqAt A s es[i].2 (.ref b) (eqf i))
  (seen:∀ Q:Bool->Shared->Prop,Q false s->wpAny (model prog w) A (searchCouldBeSeen (.ref b) ((es.filter (·.1 == h)).toList.map (·.2))) Q E s)
  (value:∀ Q:Bool->Shared->Prop,Q true s->wpAny (model prog w) A (hashByValue 8 (.ref b)) Q E s)
  (old:∀ i (hi:i < es.size),es[i].1=h->eqf i=true->Q false s)
  (new:(∀ i (hi:i < es.size),es[i].1=h->eqf i=false)->∀ h' es',SetAt h' a led es'->(∀ e,e∈es'↔e=(h,.ref b)\/e∈es)->es'.size=es.size+1->KeptBut a s.heap h'->Q true { s with heap:=h' }) :
  wpAny (model prog w) A (setAddHashed a (.ref b) h) Q E s:=by
 have line:200<=sizeLine:=by rw [sizeLine_eq];decide
 obtain ⟨o,ep,t,ho,hc,hdt,T,tl⟩:=S
 obtain ⟨K,k1,k2,k3⟩:=T.free h
 have fits:=T.fits
 unfold setAddHashed
 refine wpAny_holding ?_
 unfold setAddHashedIn
 refine wpAny_bind (wpAny_setState_of ho hdt fits ?_)
 dsimp only
 rw [if_neg (by simp [byScan,Value.scannable])]
 unfold setSearch
 refine wpAny_bind (nw' ho hdt T refs eq (λ_=>seen) k2 k3 k1 (λi hi hh ee=>?_) (λnone'=>?_) 100000 0 none (Nat.zero_le _) ?_ rfl λk'' z=>by omega)
 ·exact wpAny_pure (old i hi hh ee)
 ·have few:=few none'
  dsimp only
  refine wpAny_bind (wpAny_setState_of ho hdt fits ?_)
  dsimp only
  obtain ⟨p1,p2,p3,p4,p5,p6,p7,p8,p9,p10,p11⟩:=rv' T (h:=h) (x:=.ref b) k2 k3
  obtain ⟨q,eq'⟩:∃ q,q=t.put (sl t.mask h K):=⟨_,rfl⟩
  rw [← eq'] at p1 p2 p3 p4 p5 p6 p7 p8 p9 p10 p11 ⊢
  rw [p6,T.pl,if_pos rfl]
  refine wpAny_bind (value _ ?_)
  rw [if_pos rfl]
  have size':(insertAt es q.2 (h,Value.ref b)).size=es.size+1:=gd' p10 _
  refine wpAny_bind (wpAny_storeSet_of ho hdt ?_ (by rw [size'];omega))
  have g1:=lk' (es':=insertAt es q.2 (h,Value.ref b)) (t':=q.1) ho hdt
  have keep1:KeptBut a s.heap (s.heap.update a (Obj.putSet (insertAt es q.2 (h,Value.ref b)) q.1)):=λc u ne e=>(Heap.get?_update_other _ _ (Ne.symm ne)).trans e
  have memI:∀ e,e∈insertAt es q.2 (h,Value.ref b)↔e=(h,.ref b)\/e∈es:=λe=>lh' p10 _ e
  obtain ⟨h1,eh1⟩:∃ h1,h1=s.heap.update a (Obj.putSet (insertAt es q.2 (h,Value.ref b)) q.1):=⟨_,rfl⟩
  rw [← eh1] at g1 keep1 ⊢
  have fill:q.1.fill=es.size+1:=by
   unfold SetTable.fill
   rw [p1,p9,T.sz]
   rfl
  by_cases full:q.1.tooFull=true
  ·-- laid anew: five things,32 places
   have m7:(t.mask=7/\es.size+1=5)\/(t.mask=31/\es.size+1=19):=by
    unfold tooFull at full
    rw [fill,p5] at full
    simp only [ge_iff_le,decide_eq_true_eq] at full
    have:=T.few
    have:=T.sz
    rcases this with x
    rcases T.few.2 with m | m | m
    ·rw [m] at full;omega
    ·rw [m.1] at full;omega
    ·rw [m.1] at full;omega
   obtain ⟨nm,Rn,sa,fw⟩:∃ nm,Round nm/\sizeAbove (grown (es.size+1))=nm+1/\((nm=31/\es.size+1<=18)\/(nm=127/\es.size+1<=60)):=by
    rcases m7 with z | z
    ·exact ⟨31,round31,by rw [z.2];decide,.inl ⟨rfl,by omega⟩⟩
    ·exact ⟨127,round127,by rw [z.2];decide,.inr ⟨rfl,by omega⟩⟩
   rw [if_pos (by simp [full])]
   unfold setRelay
   have fits1:q.1.fits (insertAt es q.2 (h,Value.ref b)).size=true:=by
    unfold SetTable.fits
    rw [fill,size',p5,p9,T.sz]
    rcases m7 with z | z<;>rw [z.1]<;>simp<;>omega
   refine wpAny_bind (wpAny_bind (wpAny_setState_of (s:={ s with heap:=h1 }) g1 rfl fits1 ?_))
   dsimp only
   rw [sa,if_neg (by omega)]
   obtain ⟨t2,order,l1,l2,l3,l4,l5,l6⟩:=p4' (es:=insertAt es q.2 (h,Value.ref b)) Rn (by rw [size'];exact fw) q.1.finger (q.1.movedTo nm) q.1.led
   have rel:q.1.relaid ((insertAt es q.2 (h,Value.ref b)).map (·.1)) (grown (es.size+1))=some (t2,order):=by
    unfold relaid
    rw [sa,p6,T.pl]
    exact l1
   rw [rel]
   refine wpAny_bind (wpAny_of_eq (a:=(order.filterMap ((insertAt es q.2 (h,Value.ref b))[·]?),t2)) ?_ ?_)
   ·show (if ((order.filterMap ((insertAt es q.2 (h,Value.ref b))[·]?)).size != (insertAt es q.2 (h,Value.ref b)).size)=true then _ else pure _)=_
    rw [l2,bne_self_eq_false,if_neg Bool.false_ne_true]
   ·dsimp only
    refine wpAny_storeSet_of g1 rfl ?_ (by rw [l2,size'];omega)
    refine wpAny_pure (new none' _ _ ⟨_,_,t2,lk' g1 rfl,hc,rfl,l3,by rw [l5,p7,tl]⟩ (λe=>(l6 e).trans (memI e)) (by rw [l2,size']) λc u ne e=>(Heap.get?_update_other _ _ (Ne.symm ne)).trans (keep1 c u ne e))
  ·rw [if_neg (by simp [full])]
   refine wpAny_pure (new none' h1 _ ⟨_,_,q.1,g1,hc,rfl,⟨p1,p2,p3,p4,?_,by rw [p6];exact T.pl,p11⟩,by rw [p7,tl]⟩ memI size' keep1)
   unfold tooFull at full
   rw [fill,p5] at full
   simp only [ge_iff_le,decide_eq_true_eq] at full
   have:=T.sz
   rw [p9,p5]
   refine ⟨by omega,?_⟩
   rcases T.few.2 with m | m | m
   ·exact .inl m
   ·refine .inr (.inl ⟨m.1,?_⟩)
    rw [m.1] at full
    omega
   ·refine .inr (.inr ⟨m.1,?_⟩)
    rw [m.1] at full
    omega
 ·rcases T.few.2 with m | m | m
  ·rw [m] at k1;omega
  ·rw [m.1] at k1;omega
  ·rw [m.1] at k1;omega
end
end DL
namespace DL
open PySem PySem.W PySem.Spec PyProof.Rows L2 PySem.SetTable
def dstep (acc:List D) (d:D):List D:=if acc.any (λe=>deq e d)=true then acc else acc++[d]
def dd (ds:List D):List D:=ds.foldl dstep []
theorem nx' (acc:List D) (d:D):acc.length<=(dstep acc d).length:=by
 unfold dstep
 split
 ·exact Nat.le_refl _
 ·simp
theorem jB':∀ (ds acc:List D),acc.length<=(ds.foldl dstep acc).length
 | [],acc=>Nat.le_refl _
 | d::ds,acc=>Nat.le_trans (nx' acc d) (jB' ds _)
theorem p5' (ds:List D){i:Nat} (h:i < ds.length):dd (ds.take (i+1))=dstep (dd (ds.take i)) ds[i]:=by
 unfold dd
 rw [List.take_succ,List.foldl_append,List.getElem?_eq_getElem h]
 rfl
theorem ku' (ds:List D) (i:Nat):(dd (ds.take i)).length<=(dd ds).length:=by
 unfold dd
 conv=>rhs;rw [← List.take_append_drop i ds,List.foldl_append]
 exact jB' _ _
theorem jC' {d:D}:∀ (ds acc:List D),d∈ds.foldl dstep acc->d∈acc\/d∈ds
 | [],acc,h=>.inl h
 | e::ds,acc,h=>by
  rcases jC' ds _ h with h | h
  ·unfold dstep at h
   split at h
   ·exact .inl h
   ·rcases List.mem_append.mp h with h | h
    ·exact .inl h
    ·exact .inr (by rw [List.mem_singleton.mp h];exact List.mem_cons_self)
  ·exact .inr (List.mem_cons_of_mem _ h)
theorem eb' {ds:List D}{d:D} (h:d∈dd ds):d∈ds:=by
 rcases jC' ds [] h with h | h
 ·cases h
 ·exact h
section
variable {X:Cx}{pins:List (Addr×Obj)}{σ:L2.St}{H:Hp}{s0 s:Shared}{prog:Program}{w:World}{A:Around}{E:Value->Shared->Prop}
def Stn (X:Cx) (H:Hp) (e:Int×Value) (d:D):Prop:=e.1=hD d/\∃ x,Is X.K H d x/\RelV x e.2
def EsOk (X:Cx) (H:Hp) (es:Array (Int×Value)) (L:List D):Prop:=es.size=L.length/\(∀ e∈es,∃ d∈L,Stn X H e d)/\∀ d∈L,∃ e∈es,Stn X H e d
def isT:D->Bool
 | .tup _=>true
 | _=>false
theorem gT' {d:D}{x:V}{u:Value} (ht:isT d=true) (h:Is X.K H d x) (r:RelV x u):∃ b,x=.ref b/\u=.ref b:=by
 cases d<;>simp [isT] at ht
 obtain ⟨a,xs,rfl,h1,h2⟩:=as' h
 cases r
 exact ⟨a,rfl,rfl⟩
theorem Stn.det (I:Inv X pins σ H s){e:Int×Value}{d d':D} (h:isT d=true) (h':isT d'=true) (x:Stn X H e d) (y:Stn X H e d'):d=d':=by
 obtain ⟨_,v,a1,a2⟩:=x
 obtain ⟨_,v',b1,b2⟩:=y
 obtain ⟨b,rfl,e1⟩:=gT' h a1 a2
 obtain ⟨b',rfl,e2⟩:=gT' h' b1 b2
 rw [e1] at e2
 cases e2
 exact fk' I a1 b1
theorem p6' {x:Value}{d:D} (hx:KV s.heap d x) (dx:dep d<=8):∀ (ys:List Value) (Q:Bool->Shared->Prop),(∀ y∈ys,∃ e,KV s.heap e y/\dep e<=8)->Q false s->wpAny (model prog w) A (searchCouldBeSeen x ys) Q E s:=by
 intro ys Q hy q
 unfold searchCouldBeSeen
 refine wpAny_bind ?_
 have key:∀ (ys:List Value) (R:Option Bool×PUnit->Shared->Prop) (body:Value->Option Bool×PUnit->Sem (ForInStep (Option Bool×PUnit))),(∀ y∈ys,∀ R':ForInStep (Option Bool×PUnit)->Shared->Prop,R' (.yield (none,())) s->wpAny (model prog w) A (body y (none,())) R' E s)->R (none,()) s →
   wpAny (model prog w) A (forIn ys (none,()) body) R E s:=by
  intro ys R body hb r
  induction ys with
  | nil=>rw [List.forIn_nil];exact wpAny_pure r
  | cons y ys ih =>
   rw [List.forIn_cons]
   exact wpAny_bind (hb y List.mem_cons_self _ (ih λz hz=>hb z (List.mem_cons_of_mem _ hz)))
 refine key ys _ _ (λy hym R' r'=>?_) (wpAny_pure q)
 obtain ⟨e,ky,ke⟩:=hy y hym
 dsimp only
 split
 all_goals
  split
  ·exact wpAny_pure r'
  ·refine wpAny_bind (ge' d _ 8 A s _ hx dx ?_)
   rw [if_neg (by simp)]
   refine wpAny_bind (ge' e _ 8 A s _ ky ke ?_)
   rw [if_neg (by simp)]
   refine wpAny_bind (gf' d _ 8 A s _ hx dx ?_)
   rw [if_neg Bool.false_ne_true]
   refine wpAny_bind (gf' e _ 8 A s _ ky ke ?_)
   rw [if_neg Bool.false_ne_true]
   exact wpAny_pure r'
end
end DL
namespace DL
open PySem PySem.W PySem.Spec PyProof.Rows L2 PySem.SetTable
section
variable {X:Cx}{pins:List (Addr×Obj)}{σ:L2.St}{H:Hp}{s0 s:Shared}{prog:Program}{w:World}{A:Around}{E:Value->Shared->Prop}
def Ext (s0 s:Shared):Prop:=∃ h tk,s={ s0 with heap:=h,toks:=tk }/\∀ b o,s0.heap.get? b=some o->h.get? b=some o
theorem Ext.inv (I:Inv X pins σ H s0) (e:Ext s0 s):Inv X pins σ H s:=by
 obtain ⟨h,tk,rfl,k⟩:=e
 exact I.kept (t':=tk) k
theorem Ext.next (e:Ext s0 s){h':Heap}{tk:Nat} (k:∀ b o,b < s0.heap.objs.size->s.heap.get? b=some o->h'.get? b=some o):Ext s0 { s with heap:=h',toks:=tk }:=by
 obtain ⟨h,t,rfl,k0⟩:=e
 exact ⟨h',tk,rfl,λb o x=>k b o (Heap.lt_size x) (k0 b o x)⟩
def SetOk (ds:List D):Prop:=cmAll ds=true/\ds.all kyB=true/\ds.all isT=true/\depA ds<=8/\(dd ds).length<=28
theorem SetAt.kept {h h':Heap}{a:Addr}{led:Bool}{es:Array (Int×Value)} (S:SetAt h a led es) (k:∀ o,h.get? a=some o->h'.get? a=some o):SetAt h' a led es:=by
 obtain ⟨o,ep,t,r1,r2⟩:=S
 exact ⟨o,ep,t,k _ r1,r2⟩
theorem Stn.up {J:Hp} (hJ:∀ d x,Is X.K J d x->Is X.K H d x){e:Int×Value}{d:D} (h:Stn X J e d):Stn X H e d:=by
 obtain ⟨h1,x,h2,h3⟩:=h
 exact ⟨h1,x,hJ _ _ h2,h3⟩
theorem jD' (I0:Inv X pins σ H s0){S It:Addr} (hS:s0.heap.objs.size<=S) (hIt:s0.heap.objs.size<=It){fp:List Addr}{n:Nat}{P:Nat->Value->Prop}{St:Nat->Heap->Prop} (W:Walks prog w A.in1 It fp [It] n P St) (hfp:S∉fp)
  {J:Hp} (hJ:∀ d x,Is X.K J d x->Is X.K H d x){ds:List D}{zs:List V} (ha:IsA X.K J ds zs) (ok:SetOk ds) (hn:n=ds.length) (hP:∀ i v,P i v->∃ x,zs[i]?=some x/\RelV x v) (hu:A.units+20 < cLine){led:Bool}{R:Result->Shared->Prop} :
  ∀ (k i:Nat) (s:Shared),n - i=k->i<=n->Ext s0 s->St i s.heap->(∃ es,SetAt s.heap S led es/\EsOk X J es (dd (ds.take i))) →
   (∀ s' es,Ext s0 s'->SetAt s'.heap S led es->EsOk X J es (dd ds)->R (.ok (.ret .none)) s') →
   codeAny (model prog w) A (.builtin "set.update.loop" ⟨[.ref S,.ref It],[]⟩) R s:=by
 obtain ⟨cm,ky,ti,dp,few⟩:=ok
 have neS:S≠It:=λe=>hfp (by rw [e];exact W.sub It List.mem_cons_self)
 have nb:∀ b,b < s0.heap.objs.size->b∉[It]:=λb hb h=>by
  rw [List.mem_singleton.mp h] at hb
  exact absurd hIt (Nat.not_le.mpr hb)
 have nbS:∀ b,b < s0.heap.objs.size->b≠S:=λb hb h=>by
  rw [h] at hb
  exact absurd hS (Nat.not_le.mpr hb)
 intro k
 induction k with
 | zero =>
  intro i s hk hi ex st hset r
  obtain ⟨es,s1,s2⟩:=hset
  have:i=n:=by omega
  subst this
  refine codeAny_builtin F.entry_set_update_loop ?_;rw [Around.under_plainId F.plain_set_update_loop _]
  refine wpAny_bind (m:=pyNext (.ref It)) (W.done s _ _ st λh' tk keep=>wpAny_pure ?_)
  rw [hn,List.take_length] at s2
  exact r _ es (ex.next λb o hb x=>keep b o (nb b hb) x) (s1.kept λo x=>keep S o (by simpa using neS) x) s2
 | succ k ih =>
  intro i s hk hi ex st hset r
  obtain ⟨es,s1,s2⟩:=hset
  have lt:i < ds.length:=by omega
  refine codeAny_builtin F.entry_set_update_loop ?_;rw [Around.under_plainId F.plain_set_update_loop _]
  refine wpAny_bind (m:=pyNext (.ref It)) (W.item i s _ _ (by omega) st λv h1 tk1 pv st1 keep1=>?_)
  obtain ⟨x,e1,rv⟩:=hP i v pv
  obtain ⟨x',e1',hx⟩:=ha.get (List.getElem?_eq_getElem lt)
  rw [e1] at e1'
  cases e1'
  have dm:ds[i]∈ds:=List.getElem_mem lt
  have td:isT ds[i]=true:=List.all_eq_true.mp ti _ dm
  have dd8:dep ds[i]<=8:=Nat.le_trans (bD' dm) dp
  obtain ⟨b,rfl,rfl⟩:=gT' td hx rv
  have ex1:∀ tk,Ext s0 { s with heap:=h1,toks:=tk }:=λtk=>ex.next λb o hb x=>keep1 b o (nb b hb) x
  have s1':SetAt h1 S led es:=s1.kept λo x=>keep1 S o (by simpa using neS) x
  have I1:=(ex1 tk1).inv I0
  have kvd:=lX' I1 _ _ _ (List.all_eq_true.mp ky _ dm) (hJ _ _ hx) rv
  refine wpAny_bind (m:=holding [.ref b] (setAdd S (.ref b))) (wpAny_holding ?_)
  unfold setAdd
  refine wpAny_holding (wpAny_bind (lj' _ _ _ _ _ kvd (by show A.units+1+_ < _;omega) λtk=>?_))
  have I2:=(ex1 tk).inv I0
  have ch:∀ k,∃ d',∀ hk:k < es.size,d'∈dd (ds.take i)/\Stn X J es[k] d':=λk=>by
   by_cases hk:k < es.size
   ·obtain ⟨d',m,q⟩:=s2.2.1 es[k] (Array.getElem_mem hk)
    exact ⟨d',λ_=>⟨m,q⟩⟩
   ·exact ⟨.non,λh=>absurd h hk⟩
  have den:∀ k (hk:k < es.size),(ch k).choose∈dd (ds.take i)/\Stn X J es[k] (ch k).choose:=λk hk=>(ch k).choose_spec hk
  have sub:∀ d'∈dd (ds.take i),d'∈ds:=λd' h=>List.mem_of_mem_take (eb' h)
  have cmd:∀ d'∈dd (ds.take i),cmB d' ds[i]=true:=λd' h=>List.all_eq_true.mp (List.all_eq_true.mp cm _ (sub d' h)) _ dm
  have is':∀ d'∈dd (ds.take i),isT d'=true:=λd' h=>List.all_eq_true.mp ti _ (sub d' h)
  have dep':∀ d'∈dd (ds.take i),dep d'<=8:=λd' h=>Nat.le_trans (bD' (sub d' h)) dp
  have kv':∀ d'∈dd (ds.take i),∀ e,Stn X J e d'->KV h1 d' e.2:=λd' h e q=>by
   obtain ⟨_,y,q1,q2⟩:=q
   exact lX' I2 _ _ _ (List.all_eq_true.mp ky _ (sub d' h)) (hJ _ _ q1) q2
  have none':(∀ k (hk:k < es.size),es[k].1=hD ds[i]->deq (ch k).choose ds[i]=false)->(dd (ds.take i)).any (λe=>deq e ds[i])=false:=λhz=>by
   rw [Bool.eq_false_iff]
   intro h
   obtain ⟨d',m,q⟩:=List.any_eq_true.mp h
   obtain ⟨e,m1,q1⟩:=s2.2.2 d' m
   obtain ⟨k,hk,rfl⟩:=Array.getElem_of_mem m1
   have same:=Stn.det I2 (is' _ (den k hk).1) (is' _ m) ((den k hk).2.up hJ) (q1.up hJ)
   have eqd:=gP' _ _ (cmd d' m) q
   have:=hz k hk (by rw [q1.1,eqd])
   rw [same,q] at this
   cases this
  have step:dd (ds.take (i+1))=dstep (dd (ds.take i)) ds[i]:=p5' ds lt
  have cont:∀ h2 es',KeptBut S h1 h2->SetAt h2 S led es'->EsOk X J es' (dd (ds.take (i+1)))->codeAny (model prog w) A (.builtin "set.update.loop" ⟨[.ref S,.ref It],[]⟩) R { s with heap:=h2,toks:=tk }:=λh2 es' kb sa eo=>by
   refine ih (i+1) _ (by omega) (by omega) ((ex1 tk).next (tk:=tk) λb o hb x=>kb b o (nbS b hb) x) (W.frame _ _ _ st1 λb hb o x=>kb b o (λe=>hfp (e▸hb)) x) ⟨es',sa,eo⟩ r
  refine rx' (s:={ s with heap:=h1,toks:=tk }) (led:=led) (es:=es) (eqf:=λk=>deq (ch k).choose ds[i]) s1' (λhz=>?_) (λk hk=>?_) (λk hk _=>?_) (λQ q=>?_) (λQ q=>jA' _ _ 8 _ _ _ kvd dd8 q) (λk hk hh ee=>?_) λhz h2 es' sa mem sz kb=>?_
  ·have l1:=ku' ds (i+1)
   rw [step,dstep,if_neg (by rw [none' hz];exact Bool.false_ne_true),List.length_append,List.length_singleton,← s2.1] at l1
   omega
  ·obtain ⟨m,_,y,q1,q2⟩:=den k hk
   obtain ⟨b',_,e⟩:=gT' (is' _ m) q1 q2
   exact ⟨b',e⟩
  ·obtain ⟨m,_,y,q1,q2⟩:=den k hk
   exact (fP' I2 8 A.in1 (by show A.units+1+8 < _;omega) _ _ _ _ _ _ (.inl (dep' _ m)) (hJ _ _ q1) (hJ _ _ hx) q2 rv).2.1
  ·refine p6' (s:={ s with heap:=h1,toks:=tk }) (d:=ds[i]) kvd dd8 _ _ (λy hy=>?_) q
   obtain ⟨e,m,rfl⟩:=List.mem_map.mp hy
   have m':e∈es:=(Array.mem_filter.mp (Array.mem_toList_iff.mp m)).1
   obtain ⟨d',m1,q1⟩:=s2.2.1 e m'
   exact ⟨d',kv' d' m1 e q1,dep' d' m1⟩
  ·refine wpAny_pure ⟨plainId_quiet F.plain_set_update_loop _,cont h1 es (λb o _ x=>x) s1' ?_⟩
   rw [step,dstep,if_pos (List.any_eq_true.mpr ⟨_,(den k hk).1,ee⟩)]
   exact s2
  ·refine wpAny_pure ⟨plainId_quiet F.plain_set_update_loop _,cont h2 es' kb sa ?_⟩
   rw [step,dstep,if_neg (by rw [none' hz];exact Bool.false_ne_true)]
   have own:Stn X J (hD ds[i],.ref b) ds[i]:=⟨rfl,_,hx,rv⟩
   refine ⟨by rw [sz,s2.1];simp,λe he=>?_,λd' hd'=>?_⟩
   ·rcases (mem e).mp he with rfl | he
    ·exact ⟨_,by simp,own⟩
    ·obtain ⟨d',m,q⟩:=s2.2.1 e he
     exact ⟨d',List.mem_append_left _ m,q⟩
   ·rcases List.mem_append.mp hd' with h | h
    ·obtain ⟨e,m,q⟩:=s2.2.2 d' h
     exact ⟨e,(mem e).mpr (.inr m),q⟩
    ·rw [List.mem_singleton.mp h]
     exact ⟨_,(mem _).mpr (.inl rfl),own⟩
end
end DL
namespace DL
open PySem PySem.W PySem.Spec PyProof.Rows L2 PySem.SetTable
theorem iA':Manifest.owners.lookup (String.ofList ['r','o','t','a','r','e','t','i','_','t','e','s'].reverse)=some Manifest.sig_set_iterator:=by kernel_rfl
theorem dk':Slot "set_iterator" "__next__" "set_iterator.__next__":=.of (owner := "set_iterator") (n := "__next__") (by rw [typeLookup_type,builtinLookup_eq_fast];kernel_rfl) (by decide +kernel) (by decide +kernel) (by decide +kernel) (by first | exact .inl (by decide +kernel) | exact .inr (by decide +kernel)) (by rw [isSubtype_type];kernel_rfl)
theorem iB':entryFor table "set_iterator.__next__"=some Builtin.«set_iterator.__next__»:=entryFor_of_tree (by kernel_rfl)
theorem jE' (a:Value):argsOk "set_iterator.__next__" ⟨[a],[]⟩:=by
 unfold argsOk
 rw [signature?_of (id := "set_iterator.__next__") (n:=['_','_','t','x','e','n','_','_']) (o:=['r','o','t','a','r','e','t','i','_','t','e','s']) (by kernel_rfl) iA']
 kernel_rfl
theorem hO':entryFor table "set.__iter__"=some Builtin.«frozenset.__iter__»:=entryFor_alias (id' := "frozenset.__iter__") (by kernel_rfl) rfl (by decide +kernel) (by kernel_rfl)
theorem iC' {α:Type}:∀ (l:List α) (i:Nat) (h:i < l.length),(l[i]::l.eraseIdx i).Perm l
 | a::l,0,h=>List.Perm.refl _
 | a::l,i+1,h=>by
  rw [List.eraseIdx_cons_succ,List.getElem_cons_succ]
  exact (List.Perm.swap a _ _).trans ((iC' l i (by simpa using h)).cons a)
theorem ll' {α:Type} (next:Nat->Nat):∀ (f k:Nat) (left:List α) (out:Array α),left.length=f->(pickOrder.go next f k left out).toList.Perm (out.toList++left)
 | 0,k,left,out,h=>by
  rw [pickOrder.go,List.length_eq_zero_iff.mp h,List.append_nil]
 | f+1,k,left,out,h=>by
  have lt:next k % left.length < left.length:=Nat.mod_lt _ (by omega)
  rw [pickOrder.go,List.getElem?_eq_getElem lt]
  dsimp only
  refine (ll' next f (k+1) _ _ (by rw [List.length_eraseIdx_of_lt lt];omega)).trans ?_
  rw [Array.toList_push,List.append_assoc]
  exact List.Perm.append_left _ (iC' left _ lt)
theorem ny' {α:Type} (next:Nat->Nat) (xs:Array α):(pickOrder next xs).toList.Perm xs.toList:=by
 have:=ll' next xs.size 0 xs.toList #[] (by simp)
 simpa [pickOrder] using this
section
variable {prog:Program}{w:World}{A:Around}{E:Value->Shared->Prop}{s:Shared}
def byTx (w:World):Bool:=w.params.followText "set-order"
def walkOf (w:World) (S:Addr) (ep:Nat) (es:Array (Int×Value)):Array (Int×Value):=if byTx w=true then pickOrder (w.params.setOrder S ep) es else es
theorem dD' (w:World) (S:Addr) (ep:Nat) (es:Array (Int×Value)):(walkOf w S ep es).toList.Perm es.toList:=by
 unfold walkOf
 split
 ·exact ny' _ _
 ·exact List.Perm.refl _
theorem dE' (w:World) (S:Addr) (ep:Nat) (es:Array (Int×Value)):(walkOf w S ep es).size=es.size:=by
 have:=(dD' w S ep es).length_eq
 simpa using this
def slotAt (w:World) (t:SetTable) (k:Nat):Nat:=if byTx w=true then 0 else match k with
 | 0=>0
 | k+1=>t.place.getD k 0+1
def SitAt (h:Heap) (I S:Addr) (slot k n ep:Nat):Prop:=∃ o,h.get? I=some o/\o.cls=.type "set_iterator"/\o.data=.fields #[.int slot 0,.int k 0,.ref S,.int n 0,.int ep 0]
def SetIs (h:Heap) (S:Addr) (es:Array (Int×Value)) (ep:Nat) (t:SetTable):Prop:=∃ o,h.get? S=some o/\o.cls=.type "set"/\o.data=.set es ep t
theorem lY' {w:World}{t:SetTable}{es:Array (Int×Value)} (T:TabOk t es) (hb:byTx w=false){k:Nat} (hk:k<=es.size):below t.place (slotAt w t k)=k:=by
 unfold slotAt
 rw [hb,if_neg Bool.false_ne_true];have sz:=T.sz
 cases k with
 | zero =>
  dsimp only
  obtain ⟨b1,b2,b3⟩:=eU' T.ris 0
  rcases Nat.eq_zero_or_pos (below t.place 0) with h | h
  ·exact h
  ·have:=b2 0 (by omega) h
   omega
 | succ k =>
  dsimp only
  have lt:k < t.place.size:=by omega
  rw [Array.getD,dif_pos lt]
  change below t.place (t.place[k]+1)=k+1
  obtain ⟨b1,b2,b3⟩:=eU' T.ris (t.place[k]+1)
  rcases Nat.lt_trichotomy (below t.place (t.place[k]+1)) (k+1) with l | l | l
  ·have:=b3 k lt (by omega)
   omega
  ·exact l
  ·have h1:k+1 < t.place.size:=by omega
   have:=b2 (k+1) h1 l
   have:=T.ris k (k+1) lt h1 (by omega)
   omega
theorem hP' {Q:Bool->Shared->Prop} (q:Q (byTx w) s):wpAny (model prog w) A setsByText Q E s:=wpAny_bind (wpAny_askSetting (wpAny_pure q))
theorem lm' {S:Addr}{es:Array (Int×Value)}{ep:Nat}{t:SetTable} (T:TabOk t es) (led:t.led=!byTx w) (hS:SetIs s.heap S es ep t){k:Nat} (hk:k<=es.size){Q:Option (Value×Nat)->Shared->Prop}
  (q:Q ((walkOf w S ep es)[k]?.map λe=>(e.2,slotAt w t (k+1))) s):wpAny (model prog w) A (setNext S (slotAt w t k) k ep) Q E s:=by
 obtain ⟨o,ho,hc,hd⟩:=hS
 unfold setNext
 refine wpAny_bind (wpAny_setState_of ho hd T.fits ?_)
 dsimp only
 refine wpAny_bind (hP' ?_)
 cases hb:byTx w with
 | true =>
  rw [if_pos rfl,bne_self_eq_false,if_neg Bool.false_ne_true]
  have z:∀ k,slotAt w t k=0:=λk=>by unfold slotAt;rw [hb,if_pos rfl]
  rw [z]
  rw [z] at q
  refine wpAny_bind ?_
  unfold setWalk
  refine wpAny_bind (wpAny_setState_of ho hd T.fits ?_)
  dsimp only
  refine wpAny_bind (hP' ?_)
  rw [hb,if_pos rfl]
  refine wpAny_bind (wpAny_askSetting (wpAny_pure (wpAny_pure ?_)))
  unfold walkOf at q
  rw [hb,if_pos rfl] at q
  exact q
 | false =>
  rw [if_neg Bool.false_ne_true]
  show wpAny _ _ (if (!t.plain&&decide (es.size > 1))=true then _ else _) _ _ _
  rw [T.pl,Bool.not_true,Bool.false_and,if_neg Bool.false_ne_true]
  refine wpAny_bind ?_
  show wpAny _ _ (if (!t.led&&!es.isEmpty)=true then _ else _) _ _ _
  rw [led,hb,Bool.not_false,Bool.not_true,Bool.false_and,if_neg Bool.false_ne_true]
  refine wpAny_pure (wpAny_pure ?_);rw [lY' T hb hk]
  unfold walkOf at q
  rw [hb,if_neg Bool.false_ne_true] at q
  have sz:=T.sz
  by_cases lt:k < es.size
  ·have lt':k < t.place.size:=by omega
   rw [Array.getElem?_eq_getElem lt,Array.getElem?_eq_getElem lt']
   rw [Array.getElem?_eq_getElem lt] at q
   unfold slotAt at q
   rw [hb,if_neg Bool.false_ne_true] at q
   simp only [Option.map_some,Array.getD,lt',dif_pos] at q
   exact q
  ·rw [Array.getElem?_eq_none (by omega)]
   rw [Array.getElem?_eq_none (by omega)] at q
   exact q
end
end DL
namespace DL
open PySem PySem.W PySem.Spec PyProof.Rows L2 PySem.SetTable
section
variable {prog:Program}{w:World}{A:Around}{E:Value->Shared->Prop}{s:Shared}
theorem jF':Slot "set_iterator" "__iter__" "set_iterator.__iter__":=.of (owner := "set_iterator") (n := "__iter__") (by rw [typeLookup_type,builtinLookup_eq_fast];kernel_rfl) (by decide +kernel) (by decide +kernel) (by decide +kernel) (by first | exact .inl (by decide +kernel) | exact .inr (by decide +kernel)) (by rw [isSubtype_type];kernel_rfl)
theorem hQ':entryFor table "set_iterator.__iter__"=some Builtin.«dict_keyiterator.__iter__»:=entryFor_alias (id' := "dict_keyiterator.__iter__") (by kernel_rfl) rfl (by decide +kernel) (by kernel_rfl)
theorem iO' (a:Value):argsOk "set_iterator.__iter__" ⟨[a],[]⟩:=by
 unfold argsOk
 rw [signature?_of (id := "set_iterator.__iter__") (n:=['_','_','r','e','t','i','_','_']) (o:=['r','o','t','a','r','e','t','i','_','t','e','s']) (by kernel_rfl) iA']
 kernel_rfl
theorem SitAt.type {I S:Addr}{slot k n ep:Nat} (h:SitAt s.heap I S slot k n ep):s.TypeIs (.ref I) "set_iterator":=by
 obtain ⟨o,h1,h2,_⟩:=h
 exact ⟨o,h1,h2⟩
theorem SetIs.type {S:Addr}{es:Array (Int×Value)}{ep:Nat}{t:SetTable} (h:SetIs s.heap S es ep t):s.TypeIs (.ref S) "set":=by
 obtain ⟨o,h1,h2,_⟩:=h
 exact ⟨o,h1,h2⟩
theorem oJ' {S:Addr}{es:Array (Int×Value)}{ep:Nat}{t:SetTable} (T:TabOk t es) (hS:SetIs s.heap S es ep t){Q:Value->Shared->Prop}
  (q:Q (.ref s.heap.objs.size) { s with heap:=s.heap.push { cls:=.type "set_iterator", data:=.fields #[.int 0 0,.int 0 0,.ref S,.int es.size 0,.int ep 0] } }):wpAny (model prog w) A (pyIter (.ref S)) Q E s:=by
 have hT:=hS.type
 obtain ⟨o,ho,hc,hd⟩:=hS
 refine wpAny_pyIter_slot hT F.slot_set_iter (wpAny_call_entry F.slot_set_iter hT hO' ?_ (F.args_set_iter_1 _))
 refine wpAny_bind (m:=Builtin.Frozenset.slot0 "__iter__" ⟨[.ref S],[]⟩) (wpAny_bind (wpAny_pure (wpAny_pure ?_)))
 refine wpAny_bind (m:=Builtin.Frozenset.sizeOf S) (wpAny_bind (wpAny_setEntries_of ho hd T.fits (wpAny_pure ?_)))
 refine wpAny_bind (m:=setDrawn S) ?_
 unfold setDrawn
 refine wpAny_bind (wpAny_setState_of ho hd T.fits ?_)
 dsimp only
 refine wpAny_bind (hP' (wpAny_pure ?_))
 have z:(!byTx w&&(!t.plain&&decide (es.size > 1)))=false:=by rw [T.pl];simp
 show wpAny _ _ (if (!byTx w&&(!t.plain&&decide (es.size > 1)))=true then _ else _) _ _ _
 rw [z,if_neg Bool.false_ne_true]
 refine wpAny_bind (wpAny_pure (wpAny_bind ?_));unfold setEpoch
 refine wpAny_bind (wpAny_setState_of ho hd T.fits (wpAny_pure ?_))
 exact wpAny_bind (wpAny_newObj_type (wpAny_pure ⟨_,rfl, "set_iterator", _,⟨_,Heap.get?_push_size _ rfl,rfl⟩,dk'.lookup,q⟩))
theorem p7' (hh:A.handled=none){Q:Option Value->Shared->Prop} (q:∀ h',(∀ b o,s.heap.get? b=some o->h'.get? b=some o)->Q none { s with heap:=h' }) :
  wpAny (model prog w) A (newExc (.type "StopIteration") [] >>= λe=>(raiseNew e:Sem PySem.Fin)) (λ_ _=>False) (λe s'=>wpAny (model prog w) A (isInstance e (.type "StopIteration")) (λb s''=>b=true/\Q none s'') (λ_ _=>False) s') s:=by
 refine wpAny_bind ?_
 unfold newExc newTuple
 refine wpAny_bind (wpAny_newObj_type (wpAny_bind (m:=firstArgMember _ _) (wpAny_of_eq (a:=Value.none) (by first | rfl | (simp only [firstArgMember];rfl)) (wpAny_newObj_type ?_ (by size_fits)))) (by size_fits))
 unfold raiseNew
 refine wpAny_bind (wpAny_handled ?_);rw [hh]
 refine wpAny_bind (wpAny_pure (wpAny_throw ?_));refine wpAny_isInstance (T := "StopIteration") (b:=true) ⟨_,Heap.get?_push_size _ rfl,rfl⟩ isSubtype_stop ⟨rfl,q _ λb o x=>?_⟩
 exact Heap.get?_push_of_some _ (Heap.get?_push_of_some _ x)
theorem nz' {I S:Addr}{es:Array (Int×Value)}{ep k:Nat}{t:SetTable} (T:TabOk t es) (led:t.led=!byTx w) (hI:SitAt s.heap I S (slotAt w t k) k es.size ep) (hS:SetIs s.heap S es ep t) (hk:k < es.size){Q:Option Value->Shared->Prop}
  (q:∀ v h',(walkOf w S ep es)[k]?.map (·.2)=some v->SitAt h' I S (slotAt w t (k+1)) (k+1) es.size ep->KeptBut I s.heap h'->Q (some v) { s with heap:=h' }):wpAny (model prog w) A (pyNext (.ref I)) Q E s:=by
 have hT:=hI.type
 obtain ⟨o,ho,hc,hd⟩:=hI
 obtain ⟨oS,hoS,hcS,hdS⟩:=id hS
 unfold pyNext
 refine wpAny_bind (wpAny_attempt (wpAny_callSpecial?_slot (name:=Str.ofString "__next__") hT dk' (wpAny_call_entry dk' hT iB' ?_ (jE' _))))
 refine wpAny_bind (m:=slotArgs "__next__" 0 ⟨[.ref I],[]⟩) (wpAny_pure ?_)
 refine wpAny_bind (wpAny_fieldsOf ho hd ?_);refine wpAny_bind (wpAny_setEntries_of hoS hdS T.fits ?_)
 rw [if_neg (by simp)]
 dsimp only
 have lt:k < (walkOf w S ep es).size:=by rw [dE'];exact hk
 refine wpAny_bind (m:=setNext S _ _ _) ?_
 simp only [Int.toNat_natCast]
 refine lm' T led hS (Nat.le_of_lt hk) ?_
 rw [Array.getElem?_eq_getElem lt,Option.map_some]
 dsimp only
 refine wpAny_bind (wpAny_setField ho hd (by simp) ?_);obtain ⟨h1,e1⟩:∃ h1,h1=s.heap.update I (Obj.mapFields (·.setIfInBounds 0 (rawInt ((slotAt w t (k+1):Nat):Int)))):=⟨_,rfl⟩
 have ho1:=Heap.get?_update_self (Obj.mapFields (·.setIfInBounds 0 (rawInt ((slotAt w t (k+1):Nat):Int)))) ho (Obj.isFreed_of_fields (Obj.data_mapFields hd _))
 have hd1:=Obj.data_mapFields hd (·.setIfInBounds 0 (rawInt ((slotAt w t (k+1):Nat):Int)))
 have k1:KeptBut I s.heap h1:=λb o ne x=>by rw [e1];exact (Heap.get?_update_other _ _ (Ne.symm ne)).trans x
 rw [← e1] at ho1 ⊢
 refine wpAny_bind (wpAny_setField ho1 hd1 (by simp) (wpAny_pure ⟨_,rfl,wpAny_pure (q _ _ (by rw [Array.getElem?_eq_getElem lt];rfl) ⟨_,Heap.get?_update_self _ ho1 (Obj.isFreed_of_fields (Obj.data_mapFields hd1 _)),?_,?_⟩ λb o ne x=>(Heap.get?_update_other _ _ (Ne.symm ne)).trans (k1 b o ne x))⟩))
 ·exact ((Obj.cls_mapFields ..).trans (Obj.cls_mapFields ..)).trans hc
 ·rw [Obj.data_mapFields hd1]
  simp [rawInt]
theorem oK' (hh:A.handled=none){I S:Addr}{es:Array (Int×Value)}{ep:Nat}{t:SetTable} (T:TabOk t es) (led:t.led=!byTx w) (hI:SitAt s.heap I S (slotAt w t es.size) es.size es.size ep) (hS:SetIs s.heap S es ep t){Q:Option Value->Shared->Prop}
  (q:∀ h',KeptBut I s.heap h'->Q none { s with heap:=h' }):wpAny (model prog w) A (pyNext (.ref I)) Q E s:=by
 have hT:=hI.type
 obtain ⟨o,ho,hc,hd⟩:=hI
 obtain ⟨oS,hoS,hcS,hdS⟩:=id hS
 unfold pyNext
 refine wpAny_bind (wpAny_attempt (wpAny_callSpecial?_slot (name:=Str.ofString "__next__") hT dk' (wpAny_call_entry dk' hT iB' ?_ (jE' _))))
 refine wpAny_bind (m:=slotArgs "__next__" 0 ⟨[.ref I],[]⟩) (wpAny_pure ?_)
 refine wpAny_bind (wpAny_fieldsOf ho hd ?_);refine wpAny_bind (wpAny_setEntries_of hoS hdS T.fits ?_)
 rw [if_neg (by simp)]
 dsimp only
 refine wpAny_bind (m:=setNext S _ _ _) ?_
 simp only [Int.toNat_natCast]
 refine lm' T led hS (Nat.le_refl _) ?_
 rw [Array.getElem?_eq_none (by rw [dE'];exact Nat.le_refl _),Option.map_none]
 dsimp only
 refine wpAny_bind (wpAny_setField ho hd (by simp) ?_);refine wpAny_mono (p7' (A:=A.in1) (s:={ s with heap:=_ }) (Q:=Q) hh λh' keep=>q h' λb o ne x=>keep b o ((Heap.get?_update_other _ _ (Ne.symm ne)).trans x)) (λ_ _ x=>x.elim) λe s' h=>?_
 refine wpAny_bind (wpAny_mono (wpAny_of_in1 h) (λb s'' hb=>?_) λ_ _ x=>x.elim)
 obtain ⟨rfl,hq⟩:=hb
 exact wpAny_pure hq
theorem nA' (hh:A.handled=none){I S:Addr} (ne:S≠I){es:Array (Int×Value)}{ep:Nat}{t:SetTable} (T:TabOk t es) (led:t.led=!byTx w) :
  Walks prog w A I [I,S] [I] es.size (λk v=>(walkOf w S ep es)[k]?.map (·.2)=some v) (λk h=>SitAt h I S (slotAt w t k) k es.size ep/\SetIs h S es ep t) where
 sub:=λb hb=>by
  rw [List.mem_singleton.mp hb]
  exact List.mem_cons_self
 frame:=λk h h' st keep=>by
  obtain ⟨⟨o,a1,a2⟩,⟨o',b1,b2⟩⟩:=st
  exact ⟨⟨o,keep I (by simp) o a1,a2⟩,⟨o',keep S (by simp) o' b1,b2⟩⟩
 item:=λk s Q E hk st q=>nz' T led st.1 st.2 hk λv h' e si kb=>by
  refine q v h' s.toks e ⟨si,?_⟩ λb o nb x=>kb b o (λz=>nb (by rw [z];simp)) x
  obtain ⟨o',b1,b2⟩:=st.2
  exact ⟨o',kb S o' ne b1,b2⟩
 done:=λs Q E st q=>oK' hh T led st.1 st.2 λh' kb=>q h' s.toks λb o nb x=>kb b o (λz=>nb (by rw [z];simp)) x
 self:=λk s Q E st q=>by
  have hT:=st.1.type
  exact wpAny_pyIter_slot hT jF' (wpAny_call_entry jF' hT hQ' (wpAny_pure ⟨_,rfl, "set_iterator", _,hT,dk'.lookup,q⟩) (iO' _))
end
end DL
namespace DL
open PySem PySem.W PySem.Spec PyProof.Rows L2 PySem.SetTable
section
variable {prog:Program}{w:World}{A:Around}{E:Value->Shared->Prop}{s:Shared}
theorem nB' {xs:Array Value}{acc:Array Value} (h:ItemsOf (λk v=>xs[k]?=some v) acc xs.size):acc=xs:=by
 refine Array.ext h.1 λi h1 h2=>?_
 have:=h.2 i acc[i] (Array.getElem?_eq_getElem h1)
 change xs[i]?=some acc[i] at this
 rw [Array.getElem?_eq_getElem h2] at this
 exact Eq.symm (Option.some.inj this)
theorem oL' {S:Addr}{Q:Bool->Shared->Prop} (hT:s.TypeIs (.ref S) "set") (q:Q false s):wpAny (model prog w) A (Builtin.List.listLengthHint (.ref S)) Q E s:=by
 unfold Builtin.List.listLengthHint;refine wpAny_bind (wpAny_specialOf hT F.slot_set_len.lookup ?_)
 have sp:splitId "set.__len__"=some ("set", "__len__"):=by decide +kernel
 dsimp only
 rw [sp]
 dsimp only
 refine wpAny_bind (wpAny_isInstance hT sub_set_self ?_);rw [if_neg (by decide)]
 exact wpAny_bind (wpAny_typeOf hT (wpAny_pure q))
theorem ln' (hh:A.handled=none){S:Addr}{es:Array (Int×Value)}{ep:Nat}{t:SetTable} (T:TabOk t es) (led:t.led=!byTx w) (hS:SetIs s.heap S es ep t){Q:List Value->Shared->Prop}
  (q:∀ h' tk,(∀ b o,s.heap.get? b=some o->h'.get? b=some o)->s.heap.objs.size<=h'.objs.size->Q ((walkOf w S ep es).toList.map (·.2)) { s with heap:=h',toks:=tk }):wpAny (model prog w) A (collect (.ref S)) Q E s:=by
 have line:64<=sizeLine:=by rw [sizeLine_eq];decide
 have few:es.size<=60:=by have:=T.few;have:=T.sz;omega
 have ltS:S < s.heap.objs.size:=by
  obtain ⟨o,ho,_⟩:=hS
  exact Heap.lt_size ho
 unfold collect
 refine wpAny_bind (wpAny_runValue (codeAny_builtin F.entry_proto_collect ?_));rw [Around.under_plainId F.plain_proto_collect _]
 refine wpAny_bind (m:=newList []) (wpAny_newObj_type (wpAny_pure ⟨plainId_quiet F.plain_list_iadd _,codeAny_builtin F.entry_list_iadd ?_⟩))
 rw [Around.under_plainId F.plain_list_iadd _];obtain ⟨h1,e1⟩:∃ h1,h1=s.heap.push { cls:=.type "list", data:=.seq ([]:List Value).toArray }:=⟨_,rfl⟩
 have sz1:h1.objs.size=s.heap.objs.size+1:=by rw [e1,Heap.size_push]
 have old1:∀ b o,s.heap.get? b=some o->h1.get? b=some o:=λb o x=>by rw [e1];exact Heap.get?_push_of_some _ x
 have own1:h1.get? s.heap.objs.size=some { cls:=.type "list", data:=.seq ([]:List Value).toArray }:=by rw [e1];exact Heap.get?_push_size _ rfl
 rw [← e1]
 have hS1:SetIs h1 S es ep t:=by
  obtain ⟨o,ho,r⟩:=hS
  exact ⟨o,old1 _ _ ho,r⟩
 have neL:s.heap.objs.size≠S:=Nat.ne_of_gt ltS
 show wpAny _ A.in1 (Builtin.List.listExtendWith (.ref s.heap.objs.size) (.ref S) (.ref s.heap.objs.size)) _ _ { s with heap:=h1 }
 unfold Builtin.List.listExtendWith;refine wpAny_bind (wpAny_typeOf (s:={ s with heap:=h1 }) hS1.type ?_)
 rw [if_neg (by simp [Builtin.List.listSameRef,neL])]
 refine wpAny_bind (oJ' (s:={ s with heap:=h1 }) T hS1 ?_)
 obtain ⟨I,eI⟩:∃ I,I=h1.objs.size:=⟨_,rfl⟩
 obtain ⟨h2,e2⟩:∃ h2,h2=h1.push { cls:=.type "set_iterator", data:=.fields #[.int 0 0,.int 0 0,.ref S,.int es.size 0,.int ep 0] }:=⟨_,rfl⟩
 have old2:∀ b o,h1.get? b=some o->h2.get? b=some o:=λb o x=>by rw [e2];exact Heap.get?_push_of_some _ x
 have ownI:SitAt h2 I S (slotAt w t 0) 0 es.size ep:=⟨_,by rw [e2,eI];exact Heap.get?_push_size _ rfl,rfl,by unfold slotAt;split<;>rfl⟩
 have hS2:SetIs h2 S es ep t:=by
  obtain ⟨o,ho,r⟩:=hS1
  exact ⟨o,old2 _ _ ho,r⟩
 show wpAny _ _ _ _ _ { s with heap:=h1.push _ }
 rw [← e2]
 rw [← eI]
 refine wpAny_bind (wpAny_holding (oL' (s:={ s with heap:=h2 }) hS2.type ?_))
 rw [if_pos (by decide +kernel)]
 refine wpAny_bind (wpAny_rule (wpAny_bind (m:=Builtin.List.listTouch (.ref s.heap.objs.size)) ?_))
 have own2:=old2 _ _ own1
 refine wpAny_bind (m:=updateSeq s.heap.objs.size (·.push .none)) (wpAny_updateSeq own2 rfl ?_ (by simp) (by simp))
 have own3:=Heap.get?_update_self (Obj.mapSeq (·.push Value.none)) own2 rfl
 refine wpAny_updateSeq own3 rfl ?_ (by show (#[Value.none]:Array Value).size<=_;simp;omega) (by simp)
 have own4:=Heap.get?_update_self (Obj.mapSeq (·.pop)) own3 rfl
 obtain ⟨h4,e4⟩:∃ h4,h4=((h2.update s.heap.objs.size (Obj.mapSeq (·.push Value.none))).update s.heap.objs.size (Obj.mapSeq (·.pop))):=⟨_,rfl⟩
 have oth:KeptBut s.heap.objs.size h2 h4:=λb o ne x=>by rw [e4];exact (Heap.get?_update_other _ _ (Ne.symm ne)).trans ((Heap.get?_update_other _ _ (Ne.symm ne)).trans x)
 rw [← e4] at own4
 show wpAny _ _ _ _ _ { s with heap:=Heap.update (Heap.update h2 _ _) _ _ }
 rw [← e4]
 have neI:s.heap.objs.size≠I:=by rw [eI,sz1];exact Nat.ne_of_lt (Nat.lt_succ_self _)
 have neSI:S≠I:=by rw [eI,sz1];exact Nat.ne_of_lt (Nat.lt_succ_of_lt ltS)
 have W:=(nA' (prog:=prog) (w:=w) (A:=A.in1) (ep:=ep) (by exact hh) neSI T led).toS
 refine wpAny_pure ⟨plainId_quiet F.plain_extend_loop _,codeAny_extend_loopS W (by omega) s.heap.objs.size (by simp [neI,neL]) _ es.size 0 _ _ _ rfl (Nat.zero_le _) ?_ own4 (ItemsOf.nil _) λs' acc c mv here it=>?_⟩
 ·obtain ⟨o,a1,a2⟩:=ownI
  obtain ⟨o',b1,b2⟩:=hS2
  exact ⟨⟨o,oth _ _ (Ne.symm neI) a1,a2⟩,⟨o',oth _ _ (Ne.symm neL) b1,b2⟩⟩
 ·obtain ⟨h',g',d',tk',os'⟩:=s';have eg:g'=s.gens:=mv.gens
  have ed:d'=s.drawn:=mv.drawn
  have eo:os'=s.os:=mv.os
  subst eg;subst ed;subst eo
  refine wpAny_bind (wpAny_load here (wpAny_pure ?_))
  have size:es.size=((walkOf w S ep es).map (·.2)).size:=by rw [Array.size_map,dE']
  have all:acc=(walkOf w S ep es).map (·.2):=nB' (by
   rw [← size]
   refine ⟨it.1,λj v hj=>?_⟩
   have:=it.2 j v hj
   show ((walkOf w S ep es).map (·.2))[j]?=some v
   rw [Array.getElem?_map]
   exact this)
  have lt':s.heap.objs.size < h'.objs.size:=Heap.lt_size here
  have:=q h' tk' (λb o x=>mv.heap b o (λhb=>?_) (oth b o (Nat.ne_of_lt (Heap.lt_size x)) (old2 _ _ (old1 _ _ x)))) (Nat.le_of_lt lt')
  ·rw [all]
   simpa using this
  ·have lb:=Heap.lt_size x
   rcases List.mem_cons.mp hb with z | z
   ·exact Nat.ne_of_lt lb z
   ·rw [List.mem_singleton.mp z,eI,sz1] at lb
    exact absurd lb (Nat.not_lt.mpr (Nat.le_succ _))
end
end DL
namespace DL
open PySem PySem.W PySem.Spec PyProof.Rows L2 PySem.SetTable
section
variable {prog:Program}{w:World}{A:Around}{E:Value->Shared->Prop}{s:Shared}
def fresh0 (w:World):Obj:={ cls:=.type "set", dict:=none,data:=.set #[] 0 (.fresh 0 0 (!byTx w)) }
theorem lo' (a:Value){Q:Value->Shared->Prop} (q:Q (.ref s.heap.objs.size) { s with heap:=s.heap.push (fresh0 w) }) :
  codeAny (model prog w) A (.call (.builtin "set.__new__") ⟨[.type "set", a],[]⟩) (wants Q E) s:=by
 refine codeAny_of_tree (wpAny_bind (m:=checkBuiltinCall "set.__new__" ⟨[.type "set", a],[]⟩) (wpAny_of_eq (PySem.F.newCall_set_1 a) (wpAny_pure ⟨plainId_quiet F.plain_set_new _,codeAny_builtin F.entry_set_new ?_⟩)))
 rw [Around.under_plainId F.plain_set_new _];unfold Builtin.«set.__new__» Builtin.Frozenset.newClass
 have hsub:=sub_set_self
 obtain ⟨hp,g,d,tk,os⟩:=s;dsimp only
 wp_walk
 refine wpAny_askSetting (wpAny_pure (wpAny_bind (wpAny_alloc (wpAny_pure (wpAny_pure q)))))
theorem jG' (w:World):TabOk (.fresh 0 0 (!byTx w)) #[]:=by
 refine ⟨rfl,λi j hi=>?_,rfl,λi hi=>?_,⟨Nat.zero_le _,.inr (.inr ⟨rfl,Nat.zero_le _⟩)⟩,rfl,λi hi=>?_⟩
 all_goals exact absurd hi (Nat.not_lt_zero _)
variable {X:Cx}{pins:List (Addr×Obj)}{σ:L2.St}{H:Hp}
theorem ry' (I0:Inv X pins σ H s) (hh:A.handled=none){l:Addr}{items:List Value} (hl:s.heap.IsList l items.toArray){J:Hp} (hJ:∀ d x,Is X.K J d x->Is X.K H d x){ds:List D}{zs:List V} (ha:IsA X.K J ds zs) (hv:Vals zs items) (ok:SetOk ds) (hu:A.units+50 < cLine){Q:Value->Shared->Prop}
  (q:∀ S s' es,Ext s s'->s.heap.objs.size<=S->SetAt s'.heap S (!byTx w) es->EsOk X J es (dd ds)->Q (.ref S) s'):wpAny (model prog w) A (call (.type "set") [.ref l]) Q E s:=by
 obtain ⟨c,tl,hmro⟩:=F.called_set.mro;have hmade:=F.called_set.made
 have hsub:=F.called_set.sub
 refine wpAny_call (codeAny_of_tree (wpAny_pure ⟨Code.quiet_builtin _ (by decide +kernel),codeAny_builtin F.entry_type_call ?_⟩))
 rw [Around.under_plain (weight_type_call_type "set" [.ref l] []) rfl];have h1:=F.called_set.notType
 have h2:=F.called_set.canCreate;have hct:=PySem.F.typeCall_set_1 (.ref l)
 repeat any_goals first | assumption | wp_step
 refine codeAny_mono (lo' (w:=w) (.ref l) (E:=E) (Q:=λobj s₁=>obj=.ref s.heap.objs.size/\s₁={ s with heap:=s.heap.push (fresh0 w) }) ⟨rfl,rfl⟩) λr s₁ hr=>?_
 rcases r with e | fl
 ·exact hr
 cases fl with
 | ret obj =>
  obtain ⟨rfl,rfl⟩:=hr
  have hS:(s.heap.push (fresh0 w)).get? s.heap.objs.size=some (fresh0 w):=Heap.get?_push_size _ rfl
  have hT:Shared.TypeIs { s with heap:=s.heap.push (fresh0 w) } (.ref s.heap.objs.size) "set":=⟨_,hS,rfl⟩
  have hli:=F.called_set.init.lookup;have hbi:=F.called_set.init.bind (.ref s.heap.objs.size)
  repeat any_goals first | assumption | wp_step
  refine codeAny_mono (codeAny_call_builtin (R:=wants (λr s₂=>r=.none/\∃ es,Ext s s₂/\SetAt s₂.heap s.heap.objs.size (!byTx w) es/\EsOk X J es (dd ds)) E) F.called_set.init.plain F.entry_set_init (check_set_init_1 hT ?_)) λr₂ s₂ hr₂=>?_
  ·obtain ⟨ol,hol,hcl,nl,hdl⟩:=hl;have ltl:l < s.heap.objs.size:=Heap.lt_size hol
   obtain ⟨ocls,odict,odata,oslots⟩:=ol;simp only at hcl hdl
   subst hcl;subst hdl
   have hol':(s.heap.push (fresh0 w)).get? l=some { cls:=.type "list", dict:=odict,data:=.seq items.toArray nl,slots:=oslots }:=Heap.get?_push_of_some _ hol
   have hsls:=PySem.F.sub_list_set
   have hslf:=PySem.F.sub_list_frozenset
   have hne:(Value.type "list" == Value.type "dict")=false:=(by decide)
   have hl1:(s.heap.push (fresh0 w)).IsList l items.toArray:=⟨_,hol',rfl,nl,rfl⟩
   obtain ⟨h1,e1⟩:∃ h1,h1=s.heap.push (fresh0 w):=⟨_,rfl⟩
   have sz1:h1.objs.size=s.heap.objs.size+1:=by rw [e1,Heap.size_push]
   have old1:∀ b o,s.heap.get? b=some o->h1.get? b=some o:=λb o x=>by rw [e1];exact Heap.get?_push_of_some _ x
   rw [← e1] at hS hol' hl1
   show wpAny _ _ _ _ _ { s with heap:=s.heap.push (fresh0 w) }
   rw [← e1]
   have hSx:h1.get? s.heap.objs.size=some { cls:=.type "set", dict:=none,data:=.set #[] 0 (.fresh 0 0 (!byTx w)) }:=hS
   unfold Builtin.«set.__init__» noKeywords Builtin.Frozenset.updateFrom;generalize hPI:pyIter=PI
   wp_walk
   subst hPI
   refine wpAny_pyIter_list (s:={ s with heap:=h1 }) hl1 (wpAny_bind (wpAny_runValue ?_))
   have neI:l≠h1.objs.size:=by rw [sz1];exact Nat.ne_of_lt (Nat.lt_succ_of_lt ltl)
   refine jD' (s0:=s) (led:=!byTx w) I0 (Nat.le_refl _) (by rw [sz1];exact Nat.le_succ _) (Walks.list (by exact hh) h1.objs.size l neI items.toArray) ?_ hJ ha ok (by rw [List.size_toArray,← hv.length,← ha.length]) (λi v hi=>?_) (by show A.units+1+1+20 < _;omega) _ 0 _ rfl (Nat.zero_le _) ?_ ?_ ?_ λs' es ex sa eo=>?_
   ·rw [sz1]
    intro hm
    rcases List.mem_cons.mp hm with z | z
    ·exact absurd z (Nat.ne_of_lt (Nat.lt_succ_self _))
    ·exact absurd (List.mem_singleton.mp z) (Nat.ne_of_gt ltl)
   ·have hi':items[i]?=some v:=by simpa using hi
    have li:i < zs.length:=by
     rw [hv.length]
     rcases Nat.lt_or_ge i items.length with z | z
     ·exact z
     ·rw [List.getElem?_eq_none z] at hi';cases hi'
    obtain ⟨u,e3,e4⟩:=hv.get (List.getElem?_eq_getElem li)
    rw [hi'] at e3
    cases e3
    exact ⟨_,List.getElem?_eq_getElem li,e4⟩
   ·exact ⟨_,s.toks,rfl,λb o x=>Heap.get?_push_of_some _ (old1 b o x)⟩
   ·exact ⟨⟨_,Heap.get?_push_size _ rfl,rfl,rfl⟩,hl1.push _⟩
   ·refine ⟨#[],⟨_,0,_,Heap.get?_push_of_some _ hSx,rfl,rfl,jG' w,rfl⟩,rfl,λe he=>?_,λd hd=>?_⟩
    ·simp at he
    ·cases hd
   ·exact wpAny_pure (wpAny_pure ⟨rfl,es,ex,sa,eo⟩)
  ·rcases r₂ with e | fl₂
   ·exact hr₂
   ·cases fl₂ with
    | ret r =>
     obtain ⟨rfl,es,e1,e2,e3⟩:=hr₂
     repeat any_goals first | assumption | wp_step
     exact q _ _ es e1 (Nat.le_refl _) e2 e3
    | _=>exact hr₂.elim
 | _=>exact hr.elim
end
end DL
namespace DL
open PySem PySem.W PySem.Spec PyProof.Rows L2 PySem.SetTable
theorem IsA.up {K:PySem.W.Frag}{J H:Hp} (h:∀ d x,Is K J d x->Is K H d x):∀ {ds:List D}{zs:List V},IsA K J ds zs->IsA K H ds zs
 | [],zs,a=>by rw [a.nil_inv];exact IsA.nil
 | d::ds,zs,a=>by
  obtain ⟨x,r,rfl,h1,h2⟩:=a.cons_inv
  exact IsA.cons (h _ _ h1) (IsA.up h h2)
section
variable {X:Cx}{pins:List (Addr×Obj)}{σ:L2.St}{H:Hp}{s:Shared}{A:Around}
theorem gg' {α:Type}:∀ (l m:List α),l.Nodup->(∀ x∈l,x∈m)->m.length<=l.length->l.Perm m
 | [],m,_,_,h=>by rw [List.length_eq_zero_iff.mp (Nat.le_zero.mp h)]
 | x::l,m,nd,h,len=>by
  obtain ⟨a,b,rfl⟩:=List.append_of_mem (h x List.mem_cons_self)
  rw [List.nodup_cons] at nd
  have p:=gg' l (a++b) nd.2 (λy hy=>by
   have:=h y (List.mem_cons_of_mem _ hy)
   rcases List.mem_append.mp this with z | z
   ·exact (List.mem_append_left _ z)
   ·rcases List.mem_cons.mp z with z | z
    ·subst z;exact absurd hy nd.1
    ·exact List.mem_append_right _ z) (by simp at len ⊢;omega)
  exact (p.cons x).trans List.perm_middle.symm
theorem gU':∀ (ds acc:List D),acc.Nodup->(ds.foldl dstep acc).Nodup
 | [],acc,h=>h
 | d::ds,acc,h=>by
  refine gU' ds _ ?_
  unfold dstep
  split
  ·exact h
  ·rename_i no
   rw [List.nodup_append]
   refine ⟨h,by simp,λa ha b hb e=>?_⟩
   rw [List.mem_singleton.mp hb] at e
   subst e
   exact no (List.any_eq_true.mpr ⟨a,ha,eQ' a⟩)
theorem eW' (ds:List D):(dd ds).Nodup:=gU' ds [] List.nodup_nil
theorem jH' {l m:List D} (p:l.Perm m) (cm:cmAll l=true):sortD l=sortD m:=by
 refine gb' _ _ ((c4' l).trans (p.trans (c4' m).symm)) (ea' l) (ea' m) λa ha b hb h1 h2=>?_
 have c:=List.all_eq_true.mp (List.all_eq_true.mp cm a ((c4' l).mem_iff.mp ha)) b ((c4' l).mem_iff.mp hb)
 refine gP' a b c ?_
 rw [fr' a b c]
 unfold leD at h1 h2
 rw [h1,h2]
 rfl
theorem hR' {n:Nat}:∀ {xs:List D},(∀ x∈xs,dep x<=n)->depA xs<=n
 | [],_=>by rw [depA];exact Nat.zero_le _
 | x::xs,h=>by
  rw [depA]
  exact Nat.max_le.mpr ⟨h x List.mem_cons_self,hR' λy hy=>h y (List.mem_cons_of_mem _ hy)⟩
theorem fv' {J:Hp}{M:List D}:∀ (L:List (Int×Value)),(∀ e∈L,∃ d∈M,Stn X J e d)->∃ ds zs,IsA X.K J ds zs/\Vals zs (L.map (·.2))/\ds.length=L.length/\(∀ d∈ds,d∈M)/\∀ e∈L,∃ d∈ds,Stn X J e d
 | [],_=>⟨[],[],IsA.nil,.nil,rfl,λd hd=>(by cases hd),λe he=>(by cases he)⟩
 | e::L,h=>by
  obtain ⟨ds,zs,a1,a2,a3,a4,a5⟩:=fv' L λe he=>h e (List.mem_cons_of_mem _ he)
  obtain ⟨d,m,q⟩:=h e List.mem_cons_self
  obtain ⟨_,x,q1,q2⟩:=id q
  refine ⟨d::ds,x::zs,IsA.cons q1 a1,.cons q2 a2,by simp [a3],λd' hd'=>?_,λe' he'=>?_⟩
  ·rcases List.mem_cons.mp hd' with z | z
   ·rw [z];exact m
   ·exact a4 d' z
  ·rcases List.mem_cons.mp he' with z | z
   ·rw [z];exact ⟨d,List.mem_cons_self,q⟩
   ·obtain ⟨d',m',q'⟩:=a5 e' z
    exact ⟨d',List.mem_cons_of_mem _ m',q'⟩
theorem lZ' (hu:X.A.units+100 < cLine) (hh:X.A.handled=none) (I:Inv X pins σ H s){p:Addr}{J:Hp} (hJ:∀ d x,Is X.K J d x->Is X.K H d x){zs:List V}{ds:List D} (hq:SqL X.K H p zs) (ha:IsA X.K J ds zs) (ok:SetOk ds)
  (kd:ds.all fstI=true\/ds.all fstT=true){Q:VK} (k:∀ l zs',IsA X.K J (sortD (dd ds)) zs'->H l=none->Q (.ref l) (upd H l (.lst zs'))) :
  wpAny (model X.prog X.w) X.A (call (.type "set") [.ref p]) (λv s'=>wpAny (model X.prog X.w) X.A (call (.builtin "sorted") [v]) (EP X pins σ Q) X.xe s') X.xe s:=by
 obtain ⟨its,rv,t,hz⟩:=I.list hq
 refine ry' I hh t.isList hJ ha rv ok (by omega) λS s' es ex le sa eo=>?_
 have I':=ex.inv I
 obtain ⟨cm,ky,ti,dp,few⟩:=ok
 obtain ⟨o,ep,tb,ho,hc,hd,T,led⟩:=sa
 obtain ⟨ds',zs',a1,a2,a3,a4,a5⟩:=fv' (X:=X) (J:=J) (M:=dd ds) (walkOf X.w S ep es).toList λe he=>eo.2.1 e (by
  have:=(dD' X.w S ep es).mem_iff.mp he
  simpa using this)
 have tt:∀ d∈dd ds,isT d=true:=λd hd=>List.all_eq_true.mp ti _ (eb' hd)
 have pm:(dd ds).Perm ds':=by
  refine gg' _ _ (eW' ds) (λd hd=>?_) (by rw [a3,Array.length_toList,dE',eo.1];exact Nat.le_refl _)
  obtain ⟨e,m,q⟩:=eo.2.2 d hd
  obtain ⟨d',m',q'⟩:=a5 e ((dD' X.w S ep es).mem_iff.mpr (by simpa using m))
  have:=Stn.det I' (tt d hd) (tt d' (a4 d' m')) (q.up hJ) (q'.up hJ)
  rw [this]
  exact m'
 have sub:∀ d∈ds',d∈ds:=λd hd=>eb' (a4 d hd)
 have cm':cmAll ds'=true:=List.all_eq_true.mpr λa ha'=>List.all_eq_true.mpr λb hb'=>List.all_eq_true.mp (List.all_eq_true.mp cm a (sub a ha')) b (sub b hb')
 have a1':IsA X.K H ds' zs':=IsA.up hJ a1
 refine dx' hu I' a1' a2 ⟨by have:=pm.length_eq;omega,cm',Nat.le_trans (hR' λx hx=>bD' (sub x hx)) (by omega),?_⟩ (λQ' q=>ln' (A:=X.A.in1) (by exact hh) T led ⟨o,ho,hc,hd⟩ q) λl q hp e hl=>k l _ ?_ hl
 ·rcases kd with z | z
  ·exact .inr (.inl (List.all_eq_true.mpr λx hx=>List.all_eq_true.mp z x (sub x hx)))
  ·exact .inr (.inr (List.all_eq_true.mpr λx hx=>List.all_eq_true.mp z x (sub x hx)))
 ·rw [← jH' pm.symm cm',← e]
  exact a1.perm hp
end
end DL
namespace DL
open PySem PySem.W PySem.Spec PyProof.Rows L2 PySem.SetTable
section
variable {X:Cx}{B:BB}{e:Expr}{pos pos':Pos}{kr:Nat}
end
end DL
namespace DL
open PySem PySem.W PySem.Spec PyProof.Rows L2
section
variable {X:Cx}{B:BB}{a st e:Expr}{es:List Expr}{pos p p2:Pos}{x:Str}{k:Nat}{f:Addr}{fd:FuncData}{ps:List Str}{g:List R->Option (R×List R)}{t:M (List D)}{ga gs:M D}
end
section
variable {X:Cx}{B:BB}{a st e:Expr}{pos p p2:Pos}{ga gs:M D}
theorem Vals.rev:∀ {xs:List V}{us:List Value},Vals xs us->Vals xs.reverse us.reverse:=λ{xs us} h=>by
 refine eJ' (by simp [h.length]) λi x u e f=>?_
 have l:=h.length
 have hi:i < xs.length:=by
  rcases Nat.lt_or_ge i xs.length with z | z
  ·exact z
  ·rw [List.getElem?_eq_none (by simpa using z)] at e;cases e
 rw [List.getElem?_reverse hi] at e
 rw [List.getElem?_reverse (by omega)] at f
 obtain ⟨u',e1,e2⟩:=h.get e
 rw [l,f] at e1
 cases e1
 exact e2
end
end DL
namespace DL
open PySem PySem.W PySem.Spec PyProof.Rows L2
section
variable {X:Cx}{B:BB}{a:Expr}{pos p1:Pos}{ga:M D}{kr:Nat}
end
end DL
namespace DL
open PySem PySem.W PySem.Spec PyProof.Rows L2
section
variable {X:Cx}{B:BB}{pos:Pos}{c:Expr}{body:List Stmt}{gc:M Bool}{gb:M Fl}
def whlS:Nat->M Bool->M Fl->M Fl
 | 0,_,_=>λ_=>none
 | n+1,c,b=>bnd c λk=>if k=true then bnd b λf=>match f with
   | .nx=>whlS n c b
   | .ct=>whlS n c b
   | .bk=>ret .nx
   | .rt r=>ret (.rt r)
  else ret .nx
theorem oM' {n:Nat} (hp:PassesOwn (model X.prog X.w) X.A X.env X.xe) (hc:TD X B c gc) (hb:SDs X B body gb):SD X B (.While c body [] pos) (whlS n gc gb):=PS.imp (oi' hp hc hb) λE σ H q=>by
 obtain ⟨G,I,Γ,f,Γ',r,e1,k⟩:=q
 refine ⟨λm σ H=>∃ I2 Γ2,Rep X.K B G I2 H σ Γ2/\Grow G I I2/\whlS m gc gb Γ2=some (f,Γ'),⟨n,I,Γ,r,Grow.refl _ _,e1⟩,?_⟩
 rintro m σ2 H2 ⟨I2,Γ2,r2,g2,e2⟩
 cases m with
 | zero=>cases e2
 | succ m =>
  obtain ⟨b,Γ3,e3,e4⟩:=ae' e2
  refine ⟨G,I2,Γ2,b,Γ3,r2,e3,λH3 I3 r3 g3=>?_⟩
  cases b with
  | true =>
   rw [if_pos rfl] at e4 ⊢
   obtain ⟨fl,Γ4,e5,e6⟩:=ae' e4
   refine ⟨λσ' H'=>∃ I4,Rep X.K B G I4 H' σ' Γ4/\Grow G I I4/\(fl=.nx\/fl=.ct),λσ' H' ⟨I4,r4,g4,hf⟩=>⟨m,Nat.lt_succ_self m,I4,Γ4,r4,g4,?_⟩,G,I3,Γ3,fl,Γ4,r3,e5,λσ5 H5 I5 r5 g5=>?_⟩
   ·rcases hf with rfl | rfl<;>exact e6
   ·have gg:Grow G I I5:=g2.trans (g3.trans g5)
    cases fl with
    | nx=>exact ⟨I5,r5,gg,.inl rfl⟩
    | ct=>exact ⟨I5,r5,gg,.inr rfl⟩
    | bk=>cases e6;exact k σ5 H5 I5 r5 gg
    | rt v=>cases e6;exact k σ5 H5 I5 r5 gg
  | false =>
   rw [if_neg Bool.false_ne_true] at e4 ⊢
   cases e4
   exact k σ2 H3 I3 r3 (g2.trans g3)
end
end DL
namespace DL
open PySem PySem.W PySem.Spec PyProof.Rows L2
section
variable {X:Cx}{B:BB}{pos:Pos}{e:Expr}{g:M (List D)}
end
section
variable {X:Cx}{B:BB}{m:Nat}{elt tg iter:Expr}{ifs:List Expr}{scope:Scope}{pos:Pos}{N':List Str}{it:M (List D)}{tgt:D->M Unit}{ts:M Bool}{el:M D}
end
end DL
namespace DL
open PySem
end DL
namespace DL
open PySem PySem.W PySem.Spec PyProof.Rows L2
section
variable {X:Cx}{B:BB}{pos:Pos}{c e:Expr}{st:Stmt}{ss sa sb body:List Stmt}{g h:M Fl}{tc:M Bool}{ga:M D}
@[irreducible] def SI (X:Cx) (B:BB) (st:Stmt) (g:M Fl):Prop:=SD X B st g
@[irreducible] def SIs (X:Cx) (B:BB) (ss:List Stmt) (g:M Fl):Prop:=SDs X B ss g
theorem ai' (k:SD X B st g):SI X B st g:=by unfold SI;exact k
theorem aO' (k:SIs X B ss g):SDs X B ss g:=by unfold SIs at k;exact k
theorem aA':SIs X B [] (ret .nx):=by unfold SIs;exact pK'
theorem ah' (k:SI X B st g):SIs X B [st] g:=by unfold SI at k;unfold SIs;exact pL' k
theorem ag' (k:SI X B st g) (t:SIs X B ss h):SIs X B (st::ss) (seqS g h):=by unfold SI at k;unfold SIs at t ⊢;exact oq' k t
theorem aI' (hc:TD X B c tc) (ha:SIs X B sa g) (hb:SIs X B sb h):SI X B (.If c sa sb pos) (ifS tc g h):=by unfold SIs at ha hb;unfold SI;exact sb' hc ha hb
theorem bY' {m:Nat}{iter tg:Expr}{it:M (List D)}{tgt:D->M Unit} (hp:PassesOwn (model X.prog X.w) X.A X.env X.xe) (hc:X.calm=true) (hi:ITD X B tg iter it) (hg:GD X B m tg tgt) (hb:SIs X B body g)
  (hs:∀ x,foldedSetIterable iter X.env x=pure x:=by intro _;rfl):SI X B (.For tg iter body [] pos) (forS it tgt g):=by unfold SIs at hb;unfold SI;exact rf' hp hc hi hg hb hs
theorem jI' {n:Nat}{gc:M Bool} (hp:PassesOwn (model X.prog X.w) X.A X.env X.xe) (hc:TD X B c gc) (hb:SIs X B body g):SI X B (.While c body [] pos) (whlS n gc g):=by unfold SIs at hb;unfold SI;exact oM' hp hc hb
theorem ap' {i:Nat}{x:Str}{pos':Pos} (hN:X.N.Nodup) (he:ED X B e ga) (hi:X.N[i]?=some x:=by rfl) (hx:Loc X.env.scope x:=by first | exact Or.inl rfl | exact Or.inr rfl) (hs:swapsWith e (some (.Name x pos')) pos.line X.env=pure false:=by rfl)
  (hf:X.fn x=true\/X.env.scope.names.lookup x=some .local:=by first | exact .inl rfl | exact .inr rfl):SI X B (.Assign [.Name x pos'] e pos) (setV i ga):=by unfold SI;exact rd' hN he hi hx hs hf
end
end DL
namespace DL
open PySem PySem.W PySem.Spec PyProof.Rows L2
mutual
def pd:D->PyData
 | .non=>.none
 | .bl b=>.bool b
 | .int i=>.int i
 | .str x=>.str x
 | .tup ds=>.tuple (pdA ds)
 | .lst ds=>.list (pdA ds)
def pdA:List D->List PyData
 | []=>[]
 | d::ds=>pd d::pdA ds
end
section
variable {X:Cx}{pins:List (Addr×Obj)}{σ:L2.St}{H:Hp}{s:Shared}
mutual
theorem jJ' (I:Inv X pins σ H s):∀ (d:D) (x:V) (u:Value),Is X.K H d x->RelV x u->∃ as,Reads s.heap u (pd d) as
 | .non,x,u,h,r=>by rw [bB' h] at r;cases r;rw [pd];exact ⟨_,.none⟩
 | .bl b,x,u,h,r=>by rw [a3' h] at r;cases r;rw [pd];exact ⟨_,.bool b⟩
 | .int i,x,u,h,r=>by rw [am' h] at r;obtain ⟨t,rfl⟩:=r;rw [pd];exact ⟨_,.int i t⟩
 | .str z,x,u,h,r=>by rw [bA' h] at r;obtain ⟨t,rfl⟩:=r;rw [pd];exact ⟨_,.str z t⟩
 | .tup ds,x,u,h,r=>by
  obtain ⟨a,xs,rfl,h1,h2⟩:=as' h
  cases r
  obtain ⟨its,r1,t1,_⟩:=I.tuple h1
  obtain ⟨o,e1,e2,n,e3⟩:=t1
  obtain ⟨as,q⟩:=fw' I ds xs its h2 r1
  rw [pd]
  exact ⟨_,.tuple e1 e2 e3 (by simpa using q)⟩
 | .lst ds,x,u,h,r=>by
  obtain ⟨a,xs,rfl,h1,h2⟩:=aB' h
  cases r
  obtain ⟨its,r1,t1,_⟩:=I.list h1.sq
  obtain ⟨o,e1,e2,n,e3⟩:=t1.isList
  obtain ⟨as,q⟩:=fw' I ds xs its h2 r1
  rw [pd]
  exact ⟨_,.list e1 e2 e3 (by simpa using q)⟩
theorem fw' (I:Inv X pins σ H s):∀ (ds:List D) (xs:List V) (us:List Value),IsA X.K H ds xs->Vals xs us->∃ as,ReadsAll s.heap us (pdA ds) as
 | [],xs,us,h,r=>by
  have:=h.nil_inv;subst this
  cases r
  rw [pdA]
  exact ⟨_,.nil⟩
 | d::ds,xs,us,h,r=>by
  obtain ⟨x,xr,rfl,h1,h2⟩:=h.cons_inv
  cases r with
  | cons r1 r2 =>
   obtain ⟨as,q1⟩:=jJ' I d x _ h1 r1
   obtain ⟨bs,q2⟩:=fw' I ds xr _ h2 r2
   rw [pdA]
   exact ⟨_,.cons q1 q2⟩
end
mutual
theorem lp':∀ d:D,(pd d).hasDict=false
 | .non=>by rw [pd,PyData.hasDict]
 | .bl _=>by rw [pd,PyData.hasDict]
 | .int _=>by rw [pd,PyData.hasDict]
 | .str _=>by rw [pd,PyData.hasDict]
 | .tup ds=>by rw [pd,PyData.hasDict];exact gh' ds
 | .lst ds=>by rw [pd,PyData.hasDict];exact gh' ds
theorem gh':∀ ds:List D,PyData.hasDictAll (pdA ds)=false
 | []=>by rw [pdA,PyData.hasDictAll]
 | d::ds=>by rw [pdA,PyData.hasDictAll,lp' d,gh' ds];rfl
end
def RepOk (d:D):Prop:=(pd d).showable=true/\(pd d).depth<=50/\(pd d).shown.length<=sizeLine
theorem l0' (hu:X.A.units+100 < cLine) (hg:X.A.guards=some []):CallR X (.builtin "repr") (λxs H Q=>∃ d x,xs=[x]/\Is X.K H d x/\RepOk d/\Q (.str (pd d).shown) H):=by
 intro pins s σ H xs us Q I r h
 obtain ⟨d,x,rfl,hx,⟨ok1,ok2,ok3⟩,q⟩:=h
 obtain ⟨u,rfl,ru⟩:=vals1 r
 obtain ⟨as,rd⟩:=jJ' I d x u hx ru
 have big:∀ a,u=.ref a->wpAny (model X.prog X.w) X.A (call (.builtin "repr") [u]) (EP X pins σ Q) X.xe s:=λa e=>by
  subst e
  exact repr_of_reads' rd ok1 (λz=>by rw [lp' d] at z;cases z) hg (by omega) (λb o x=>x) (λh' v tk keep=>⟨.str _,H,I.kept (t':=tk) keep,⟨_,rfl⟩,q⟩) ok3
 cases d with
 | non =>
  rw [bB' hx] at ru
  cases ru
  exact PySem.P.repr_of_none ⟨.str _,H,I.tok _,⟨_,rfl⟩,by rw [pd,PyData.shown] at q;exact q⟩
 | bl b =>
  rw [a3' hx] at ru
  cases ru
  exact PySem.P.repr_of_bool ⟨.str _,H,I.tok _,⟨_,rfl⟩,by rw [pd,PyData.shown] at q;exact q⟩
 | int i =>
  rw [am' hx] at ru
  obtain ⟨t,rfl⟩:=ru
  rw [pd,PyData.showable] at ok1
  exact PySem.P.repr_of_int (by simpa using ok1) ⟨.str _,H,I.tok _,⟨_,rfl⟩,by rw [pd,PyData.shown] at q;exact q⟩
 | str z =>
  rw [bA' hx] at ru
  obtain ⟨t,rfl⟩:=ru
  rw [pd,PyData.shown] at ok3 q
  exact PySem.P.repr_of_str ⟨.str _,H,I.tok _,⟨_,rfl⟩,q⟩ ok3
 | tup ds =>
  obtain ⟨a,xs,rfl,_⟩:=as' hx
  cases ru
  exact big a rfl
 | lst ds =>
  obtain ⟨a,xs,rfl,_⟩:=aB' hx
  cases ru
  exact big a rfl
end
end DL
namespace DL
open PySem PySem.W PySem.Spec PyProof.Rows L2
section
variable {X:Cx}{B:BB}{e a st:Expr}{es:List Expr}{pos:Pos}{t:M (List D)}
def rInsert:V->List V->Hp->VK->Prop:=λx vs H Q=>∃ (l:Addr) (xs:List V) (i:Nat) (y:V),x=.ref l/\vs=[.int i,y]/\H l=some (.lst xs)/\i<=xs.length/\xs.length < sizeLine/\Q .non (upd H l (.lst (xs.take i++y::xs.drop i)))
theorem nC':MtM X "list.insert" rInsert:=by
 intro pins s σ H x vs v us Q I rx rv h
 obtain ⟨l,xs,i,y,rfl,rfl,hH,hi,hz,q⟩:=h
 cases rx
 obtain ⟨u1,u2,rfl,⟨tk,rfl⟩,ru⟩:=rv.two
 obtain ⟨z,its,n,r,hl,e⟩:=I.lstM hH
 have hsl:sizeLine < 9223372036854775808:=by rw [sizeLine_eq];decide
 have big:its.toArray.size<=sizeLine:=by rw [List.size_toArray];omega
 obtain ⟨j,hj⟩:∃ j:Int,j=i:=⟨_,rfl⟩
 rw [← hj]
 have fits:¬ (!Builtin.List.listFitsIndex j)=true:=by
  have:Builtin.List.listFitsIndex j=true:=by
   simp [Builtin.List.listFitsIndex]
   omega
  rw [this];simp
 have m:=AutoSeq1.list_insert_list_int_val_1 l its.toArray n j tk u2 fits big
 refine call_meets F.slot_list_insert ⟨_,e,rfl⟩ F.entry_list_insert (F.args_list_insert_3 _ _ _) m ⟨e,?_⟩
 refine ⟨.non,_,I.lset (its':=its.take i++u2::its.drop i) hH e ?_ (Vals.append (r.take _) (.cons ru (r.drop _))) ?_,rfl,q⟩
 ·have h0:¬ (j < 0):=by omega
  have hm:min j.toNat its.toArray.size=i:=by rw [List.size_toArray];omega
  dsimp only
  rw [if_neg h0,hm]
  apply Array.toList_inj.mp
  simp [List.extract_eq_take_drop,List.drop_take]
  exact List.take_of_length_le (by simp)
 ·rw [List.length_append,List.length_cons,List.length_take,List.length_drop]
  omega
def insF (as:List D) (ds:List D):Option (List D):=match as with
 | [.int n,d]=>if 0<=n/\n<=ds.length/\ds.length < lim then some (ds.take n.toNat++d::ds.drop n.toNat) else none
 | _=>none
def insS (i:Nat) (t:M (List D)):M Fl:=mutS i (bnd t λds=>bnd (wr i (insF ds)) λ_=>ret .nx)
theorem rz' {i:Nat}{x:Str}{p1 apos cpos:Pos} (hv:PE X (.Name x p1) (tVar i)) (ha:AD X B (e::es) t) (hs:swapsWith (.Call (.Attribute (.Name x p1) "insert" apos) (e::es) [] cpos) none pos.line X.env=pure false:=by rfl)
  (hse:starEach (e::es) X.env=(false,eval e X.env)::starEach es X.env:=by rfl)
  (hbase:attributeBase (.Name x p1) "insert" X.env (eval (.Name x p1) X.env)=eval (.Name x p1) X.env:=by rfl)
  (hfew:((backTo cpos (starEach (e::es) X.env)).all (λx=>!x.1)&&(backToKw cpos (keywordEach [] X.env)).all (λx=>x.1.isSome)
   &&decide ((e::es).length+([]:List Keyword).length+(if ([]:List Keyword).isEmpty then 0 else 1) < 30))=true:=by rfl)
  (hline:(apos.endLine == cpos.line)=true:=by rfl) (hplain:(backTo cpos (starEach es X.env)).any (·.1)=false:=by rfl) :
  SD X B (.Expr (.Call (.Attribute (.Name x p1) "insert" apos) (e::es) [] cpos) pos) (insS i t) :=
 PS.imp (hE' (lK' PySem.F.plainAttrs_list PySem.F.slot_list_insert PySem.F.type_list_insert nC' hv ha hbase hfew hline hse hplain) hs) λE σ H q=>by
  obtain ⟨G,I,Γ,f,Γ',r,e1,k⟩:=q
  obtain ⟨hm,e1⟩:=cJ' e1
  obtain ⟨ds,Γ1,e2,e3⟩:=ae' e1
  obtain ⟨d2,Γ2,e4,e5⟩:=ae' e3
  cases e5
  obtain ⟨p,xs,h1,h2⟩:=cQ' hm r
  refine ⟨_,h1,.inl ⟨rfl,xs,SqL.of h2⟩,G,I,Γ,ds,Γ1,r,e2,λvs H1 I1 r1 g1 hd=>?_⟩
  obtain ⟨p',xs',cs,es',h3,h4,h5,h6,h7⟩:=gH' e4 r1
  have hp:p'=p:=by rw [h1] at h3;cases h3;rfl
  subst hp
  unfold insF at h6
  split at h6
  ·rename_i n d
   obtain ⟨⟨c1,c2,c3⟩,rfl⟩:=aw' h6
   obtain ⟨x1,r1',rfl,g1',g2'⟩:=hd.cons_inv
   obtain ⟨x2,r2',rfl,g3',g4'⟩:=g2'.cons_inv
   rw [g4'.nil_inv]
   obtain ⟨m,rfl⟩:=Int.eq_ofNat_of_zero_le c1
   have:=am' g1'
   subst this
   have hl:=h5.length
   refine ⟨p',xs',m,x2,rfl,rfl,h4,by omega,?_,k σ _ I1 (h7 _ (IsA.append (h5.take _) (IsA.cons g3' (h5.drop _)))) g1⟩
   rw [← hl]
   exact Nat.lt_of_lt_of_le c3 (dz' (Nat.le_refl _))
  ·cases h6
def lastF (d:D):Option D:=match d with
 | .lst ds=>ds[ds.length - 1]?
 | _=>none
def popV (i:Nat):M D:=mutS i (bnd (look i) λl=>bnd (lft (lastF l)) λd=>bnd (wr i λds=>some ds.dropLast) λ_=>ret d)
theorem IsA.dropLast {K:PySem.W.Frag}{I:Hp}{ds:List D}{xs:List V} (h:IsA K I ds xs):IsA K I ds.dropLast xs.dropLast:=by
 rw [List.dropLast_eq_take,List.dropLast_eq_take,← h.length]
 exact h.take _
theorem rA' {i:Nat}{x:Str}{p1 apos cpos:Pos} (hv:PE X (.Name x p1) (tVar i))
  (hbase:attributeBase (.Name x p1) "pop" X.env (eval (.Name x p1) X.env)=eval (.Name x p1) X.env:=by rfl) (hline:(apos.endLine == cpos.line)=true:=by rfl) :
  ED X B (.Call (.Attribute (.Name x p1) "pop" apos) [] [] cpos) (popV i) :=
 PE.imp (q5' PySem.F.plainAttrs_list PySem.F.slot_list_pop PySem.F.type_list_pop q6' hv hbase hline) λσ H Q q=>by
  obtain ⟨G,I,Γ,d,Γ',r,e1,k⟩:=q
  obtain ⟨hm,e1⟩:=cJ' e1
  obtain ⟨l,Γ1,e2,e3⟩:=ae' e1
  obtain ⟨d',Γ2,e4,e5⟩:=ae' e3
  obtain ⟨u,Γ3,e6,e7⟩:=ae' e5
  obtain ⟨e8,rfl⟩:=ao' e4
  clear e4
  cases e7
  obtain ⟨rfl,p,xs,ds,rfl,h1,h2,h3⟩:=f9' e2 r
  obtain ⟨p',xs',cs,es',h4,h5,h6,h7,h8⟩:=gH' e6 r
  have hp:p'=p:=by rw [h1] at h4;cases h4;rfl
  subst hp
  rw [h2] at h5
  cases h5
  cases h7
  unfold lastF at e8
  obtain ⟨v,hv1,hv2⟩:=h3.get e8
  rw [h3.length] at hv1
  exact ⟨_,h1,.inl ⟨rfl,xs,SqL.of h2⟩,p',xs,v,rfl,rfl,h2,hv1,k v _ I (h8 _ h6.dropLast) (Grow.refl _ _) hv2⟩
end
section
variable {X:Cx}{B:BB}{e a st:Expr}{es:List Expr}{pos p p2:Pos}{t:M (List D)}{ga gs:M D}{kr:Nat}
theorem nD' (hc:X.calm=true):CallR X (.builtin "min") (λxs H Q=>∃ (q:Addr) (i j:Int),xs=[.ref q]/\SqT X.K H q [.int i,.int j]/\Q (.int (if j < i then j else i)) H):=by
 intro pins s σ H xs us Q I r h
 obtain ⟨q,i,j,rfl,hq,k⟩:=h
 obtain ⟨u,rfl,ru⟩:=vals1 r
 cases ru
 obtain ⟨its,rv,T,_⟩:=I.tuple hq
 obtain ⟨u1,u2,rfl,⟨k1,rfl⟩,⟨k2,rfl⟩⟩:=rv.two
 have low:q < s.heap.objs.size:=by obtain ⟨_,e,_⟩:=T;exact Heap.lt_size e
 refine call_min_walk (wpAny_pyIter_tuple T ?_)
 refine ⟨_,_,_,_,_,_,_,rfl,Walks.tuple (A:=X.A.in1) (I.ok.hd hc) _ q (Nat.ne_of_lt low) #[.int i k1,.int j k2],⟨⟨_,Heap.get?_push_size _ rfl,rfl,rfl⟩,T.push _⟩,(λb hb=>?_),Nat.succ_pos 1,CmpOf.ints_lt (λn=>if n=0 then i else j) ?_,λv h' tk hP hk=>?_⟩
 ·show b < (s.heap.push _).objs.size
  rw [Heap.size_push]
  rcases List.mem_cons.mp hb with rfl | hb
  ·exact Nat.lt_succ_self _
  ·rw [List.mem_singleton.mp hb];exact Nat.lt_succ_of_lt low
 ·intro n v hn
  match n,hn with
  | 0,hn=>cases hn;exact ⟨k1,rfl⟩
  | 1,hn=>cases hn;exact ⟨k2,rfl⟩
  | n+2,hn=>simp at hn
 ·have keep:∀ b o,s.heap.get? b=some o->h'.get? b=some o:=λb o e=>by
   refine hk b o (λhm=>?_) (Heap.get?_push_of_some _ e)
   have hm:=List.mem_singleton.mp hm
   exact absurd (hm▸Heap.lt_size e) (Nat.lt_irrefl _)
  refine ⟨_,H,I.kept keep,?_,k⟩
  simp only [List.size_toArray,List.length_cons,List.length_nil,Nat.reduceAdd,Nat.reduceSub,argBest] at hP
  by_cases c:j < i
  ·rw [if_pos c]
   simp [c] at hP
   subst hP
   exact ⟨_,rfl⟩
  ·rw [if_neg c]
   simp [c] at hP
   subst hP
   exact ⟨_,rfl⟩
theorem nE' (hc:X.calm=true):CallR X (.builtin "max") (λxs H Q=>∃ (q:Addr) (i j:Int),xs=[.ref q]/\SqT X.K H q [.int i,.int j]/\Q (.int (if j > i then j else i)) H):=by
 intro pins s σ H xs us Q I r h
 obtain ⟨q,i,j,rfl,hq,k⟩:=h
 obtain ⟨u,rfl,ru⟩:=vals1 r
 cases ru
 obtain ⟨its,rv,T,_⟩:=I.tuple hq
 obtain ⟨u1,u2,rfl,⟨k1,rfl⟩,⟨k2,rfl⟩⟩:=rv.two
 have low:q < s.heap.objs.size:=by obtain ⟨_,e,_⟩:=T;exact Heap.lt_size e
 refine call_max_walk (wpAny_pyIter_tuple T ?_)
 refine ⟨_,_,_,_,_,_,_,rfl,Walks.tuple (A:=X.A.in1) (I.ok.hd hc) _ q (Nat.ne_of_lt low) #[.int i k1,.int j k2],⟨⟨_,Heap.get?_push_size _ rfl,rfl,rfl⟩,T.push _⟩,(λb hb=>?_),Nat.succ_pos 1,CmpOf.ints_gt (λn=>if n=0 then i else j) ?_,λv h' tk hP hk=>?_⟩
 ·show b < (s.heap.push _).objs.size
  rw [Heap.size_push]
  rcases List.mem_cons.mp hb with rfl | hb
  ·exact Nat.lt_succ_self _
  ·rw [List.mem_singleton.mp hb];exact Nat.lt_succ_of_lt low
 ·intro n v hn
  match n,hn with
  | 0,hn=>cases hn;exact ⟨k1,rfl⟩
  | 1,hn=>cases hn;exact ⟨k2,rfl⟩
  | n+2,hn=>simp at hn
 ·have keep:∀ b o,s.heap.get? b=some o->h'.get? b=some o:=λb o e=>by
   refine hk b o (λhm=>?_) (Heap.get?_push_of_some _ e)
   have hm:=List.mem_singleton.mp hm
   exact absurd (hm▸Heap.lt_size e) (Nat.lt_irrefl _)
  refine ⟨_,H,I.kept keep,?_,k⟩
  simp only [List.size_toArray,List.length_cons,List.length_nil,Nat.reduceAdd,Nat.reduceSub,argBest] at hP
  by_cases c:j > i
  ·rw [if_pos c]
   simp [c] at hP
   subst hP
   exact ⟨_,rfl⟩
  ·rw [if_neg c]
   simp [c] at hP
   subst hP
   exact ⟨_,rfl⟩
def minTF (ds:List D):Option D:=match ds with
 | [.tup [.int i,.int j]]=>some (.int (if j < i then j else i))
 | _=>none
def maxTF (ds:List D):Option D:=match ds with
 | [.tup [.int i,.int j]]=>some (.int (if j > i then j else i))
 | _=>none
theorem jK' {K:PySem.W.Frag}{I H:Hp}{i j:Int}{x:V} (sm:Same I H) (h:Is K I (.tup [.int i,.int j]) x):∃ q,x=.ref q/\SqT K H q [.int i,.int j]:=by
 obtain ⟨q,zs,rfl,h3,h4⟩:=as' h
 obtain ⟨z1,r1,rfl,g1,g2⟩:=h4.cons_inv
 obtain ⟨z2,r2,rfl,g3,g4⟩:=g2.cons_inv
 rw [g4.nil_inv] at h3
 have:=am' g1
 subst this
 have:=am' g3
 subst this
 exact ⟨q,rfl,Same.sqT sm h3⟩
theorem p8' (hc:X.calm=true) (hg:Gl X "min") (hm:X.mg "min"=none) (ha:AD X B [e] t) (he:starEach [e] X.env=(false,eval e X.env)::starEach [] X.env:=by rfl) (hpl:(backTo pos (starEach [] X.env)).any (·.1)=false:=by rfl) :
  ED X B (.Call (.Name "min" p) [e] [] pos) (fn1 minTF t):=d8' (nD' hc) (λds d e B G I H σ Γ xs Q r h k=>by
 unfold minTF at e
 split at e
 ·cases e
  obtain ⟨x,rfl,hx⟩:=h.one
  obtain ⟨q,rfl,h3⟩:=jK' r.iH hx
  exact ⟨q,_,_,rfl,h3,k.now r (by rw [Is])⟩
 ·cases e) hg hm PyProof.Rows.boot_min ha (by decide) (by decide) he hpl
theorem p9' (hc:X.calm=true) (hg:Gl X "max") (hm:X.mg "max"=none) (ha:AD X B [e] t) (he:starEach [e] X.env=(false,eval e X.env)::starEach [] X.env:=by rfl) (hpl:(backTo pos (starEach [] X.env)).any (·.1)=false:=by rfl) :
  ED X B (.Call (.Name "max" p) [e] [] pos) (fn1 maxTF t):=d8' (nE' hc) (λds d e B G I H σ Γ xs Q r h k=>by
 unfold maxTF at e
 split at e
 ·cases e
  obtain ⟨x,rfl,hx⟩:=h.one
  obtain ⟨q,rfl,h3⟩:=jK' r.iH hx
  exact ⟨q,_,_,rfl,h3,k.now r (by rw [Is])⟩
 ·cases e) hg hm PyProof.Rows.boot_max ha (by decide) (by decide) he hpl
end
end DL
namespace DL
open PySem PySem.W PySem.Spec PyProof.Rows L2
def valD:List (Int×D)->Int->Option D
 | [],_=>none
 | p::r,k=>if p.1=k then some p.2 else valD r k
section
variable {K:PySem.W.Frag}{I:Hp}
theorem IsK.cons_inv {p:Int×D}{kvs:List (Int×D)}{xs:List (Key×V)} (h:IsK K I (p::kvs) xs):∃ v r,xs=(Sum.inl p.1,v)::r/\Is K I p.2 v/\IsK K I kvs r:=by
 obtain ⟨h1,h2⟩:=h
 cases xs with
 | nil=>simp at h1
 | cons x r =>
  obtain ⟨a,v⟩:=x
  simp only [List.map_cons,List.cons.injEq] at h1
  obtain ⟨rfl,h1⟩:=h1
  rw [List.map_cons,List.map_cons] at h2
  obtain ⟨y,r',e,g1,g2⟩:=h2.cons_inv
  cases e
  exact ⟨v,r,rfl,g1,h1,g2⟩
theorem IsK.nil_inv {xs:List (Key×V)} (h:IsK K I [] xs):xs=[]:=by
 have:=h.1
 simpa using this
theorem IsK.val {k:Int}:∀ {kvs:List (Int×D)}{xs:List (Key×V)},IsK K I kvs xs->(∃ d v,valD kvs k=some d/\valV xs (Sum.inl k)=some v/\Is K I d v)\/(valD kvs k=none/\valV xs (Sum.inl k)=none)
 | [],xs,h=>by rw [h.nil_inv];exact .inr ⟨rfl,rfl⟩
 | p::kvs,xs,h=>by
  obtain ⟨v,r,rfl,h1,h2⟩:=h.cons_inv
  by_cases e:p.1=k
  ·refine .inl ⟨p.2,v,by rw [valD,if_pos e],?_,h1⟩
   exact eO' (by show Sum.inl p.1=Sum.inl k;rw [e])
  ·have e':¬ ((Sum.inl p.1:Key)=Sum.inl k):=λz=>e (Sum.inl.inj z)
   rw [valD,if_neg e,eP' e']
   exact IsK.val h2
theorem IsK.snoc {k:Int}{d:D}{v:V}:∀ {kvs:List (Int×D)}{xs:List (Key×V)},IsK K I kvs xs->Is K I d v->IsK K I (kvs++[(k,d)]) (xs++[(Sum.inl k,v)])
 | kvs,xs,h,hd=>by
  refine ⟨by simp [h.1],?_⟩
  rw [List.map_append,List.map_append]
  exact IsA.append h.2 (IsA.cons hd IsA.nil)
theorem IsK.len {kvs:List (Int×D)}{xs:List (Key×V)} (h:IsK K I kvs xs):xs.length=kvs.length:=by
 have:=congrArg List.length h.1
 simpa using this
end
section
variable {K:PySem.W.Frag}{B:BB}{G I H:Hp}{σ:L2.St}{Γ:Gm}
theorem Rep.writeK (r:Rep K B G I H σ Γ){i:Nat}{kvs kvs':List (Int×D)}{p:Addr}{ys:List (Key×V)} (hq:Γ[i]?=some (some (.dic kvs))) (hs:σ[i]?=some (some (.ref p))) (hd:IsK K I kvs' ys) :
  Rep K B G I (upd H p (.dK ys)) σ (Γ.set i (some (.dic kvs'))):=by
 obtain ⟨v,e1,e2⟩:=r.slot i _ hq
 obtain ⟨p',xs',h1,h2,h3,h4,_⟩:=e2
 have hp:p'=p:=by rw [hs] at e1;subst h1;cases e1;rfl
 subst hp
 have other:∀ (j:Nat) (r':R),j≠i->Γ[j]?=some (some r')->r'.ptr=true->σ[j]?≠some (some (.ref p')):=λj r' n z m s=>n (r.dist j i r' _ _ z hq m rfl s hs)
 have sI:Same I (upd H p' (.dK ys)):=λb u z=>by
  have ne:b≠p':=λe=>by subst e;rw [h3] at z;cases z
  rw [aj' ne];exact r.iH b u z
 have sG:Same G (upd H p' (.dK ys)):=λb u z=>by
  have ne:b≠p':=λe=>by subst e;rw [h4] at z;cases z
  rw [aj' ne];exact r.gH b u z
 have r1:Rep K B G I (upd H p' (.dK ys)) σ (Γ.set i none):={
  iH:=sI,gH:=sG,len:=by rw [List.length_set];exact r.len
  slot:=λj q1 e=>by
   rcases aK' e with ⟨_,z,_⟩ | ⟨n,z⟩
   ·cases z
   obtain ⟨w,e3,e4⟩:=r.slot j q1 z
   refine ⟨w,e3,?_⟩
   have mt:q1.ptr=true->∀ ds,Mt K G I H ds w->Mt K G I (upd H p' (.dK ys)) ds w:=λm ds hh=>by
    obtain ⟨p2,xs2,g1,g2,g3,g4,g5⟩:=hh
    refine ⟨p2,xs2,g1,?_,g3,g4,g5⟩
    have ne:p2≠p':=λz2=>other j q1 n z m (by rw [e3,g1,z2])
    rw [aj' ne];exact g2
   cases q1 with
   | val d=>exact e4
   | dic ds =>
    obtain ⟨p2,xs2,g1,g2,g3,g4,g5⟩:=e4
    refine ⟨p2,xs2,g1,?_,g3,g4,g5⟩
    have ne:p2≠p':=λz2=>other j _ n z rfl (by rw [e3,g1,z2])
    rw [aj' ne];exact g2
   | own ds=>exact mt rfl ds e4
   | bor ds=>exact mt rfl ds e4
   | fro ds=>exact e4
  dist:=(r.forget i).dist
  bor:=(r.forget i).bor }
 have r2:=r1.learn (i:=i) (q:=.dic kvs') (v:=.ref p') hs ⟨p',ys,rfl,av',h3,h4,hd⟩ (λm p2 e j r' n z m' s=>by
  cases e
  rcases aK' z with ⟨_,z',_⟩ | ⟨_,z'⟩
  ·cases z'
  ·exact other j r' n z' m' s) (λds z=>nomatch z)
 rw [List.set_set] at r2
 exact r2
end
section
variable (K:PySem.W.Frag) (B:BB)
def KK (G I:Hp) (σ:L2.St) (Γ':Gm) (kvs:List (Int×D)) (Q:VK):Prop:=∀ p xs H' I',Rep K B G I' H' σ Γ'->Grow G I I'->H' p=some (.dK xs)->I' p=none->G p=none->Apart σ Γ' p->IsK K I' kvs xs->Q (.ref p) H'
def tK (g:M (List (Int×D))):TE:=λσ H Q=>∃ G I Γ kvs Γ',Rep K B G I H σ Γ/\g Γ=some (kvs,Γ')/\KK K B G I σ Γ' kvs Q
end
def EK (X:Cx) (B:BB) (e:Expr) (g:M (List (Int×D))):Prop:=PE X e (tK X.K B g)
section
variable {X:Cx}{B:BB}{e k v:Expr}{es:List Expr}{pos p:Pos}{g:M (List (Int×D))}{gk gv:M D}
def setK (i:Nat) (g:M (List (Int×D))):M Fl:=bnd g λd=>bnd (putS i (.dic d)) λ_=>ret .nx
theorem rB' {K:PySem.W.Frag}{i:Nat}:∀ E σ H,tS K B (setK i g) E σ H->tAsg (tK K B g) (gName i) E σ H:=λE σ H q=>by
 obtain ⟨G,I,Γ,f,Γ',r,e1,k⟩:=q
 obtain ⟨d1,Γ1,e2,e3⟩:=ae' e1
 obtain ⟨d2,Γ2,e4,e5⟩:=ae' e3
 cases e5
 obtain ⟨hl,rfl⟩:=d9' e4
 exact ⟨G,I,Γ,d1,Γ1,r,e2,λp xs H1 I1 r1 g1 h1 h2 h3 h4 h5=>k _ H1 _ (r1.store (by rw [r1.len];exact hl) ⟨p,xs,rfl,h1,h2,h3,h5⟩ (λ_ p' z=>by cases z;exact h4) (λ_ z=>nomatch z)) g1⟩
theorem lq' {i:Nat}{x:Str}{pos':Pos} (hN:X.N.Nodup) (he:EK X B e g) (hi:X.N[i]?=some x:=by rfl) (hx:Loc X.env.scope x:=by first | exact Or.inl rfl | exact Or.inr rfl) (hs:swapsWith e (some (.Name x pos')) pos.line X.env=pure false:=by rfl)
  (hf:X.fn x=true\/X.env.scope.names.lookup x=some .local:=by first | exact .inl rfl | exact .inr rfl):SD X B (.Assign [.Name x pos'] e pos) (setK i g):=PS.imp (i7' hN hi hx he hs hf) rB'
def tookK (i:Nat):M (List (Int×D)):=λΓ=>match Γ[i]? with
 | some (some (.dic kvs))=>some (kvs,Γ.set i none)
 | _=>none
theorem nF' {i:Nat}{Γ Γ':Gm}{kvs:List (Int×D)} (h:tookK i Γ=some (kvs,Γ')):Γ'=Γ.set i none/\Γ[i]?=some (some (.dic kvs)):=by
 unfold tookK at h
 split at h
 ·rename_i e
  cases h
  exact ⟨rfl,e⟩
 ·cases h
def retK (i:Nat):M Fl:=bnd (tookK i) λd=>ret (.rt (.dic d))
theorem qa' {i:Nat}{y:Str} (he:PE X (.Name y p) (tVar i)):SD X B (.Return (some (.Name y p)) pos) (retK i):=PS.imp (i6' he) λE σ H q=>by
 obtain ⟨G,I,Γ,f,Γ',r,e1,k⟩:=q
 obtain ⟨d1,Γ1,e2,e3⟩:=ae' e1
 cases e3
 obtain ⟨rfl,at'⟩:=nF' e2
 obtain ⟨v,h1,h2⟩:=r.slot i _ at'
 obtain ⟨p',xs',g1,g2,g3,g4,g5⟩:=h2
 refine ⟨v,h1,k σ H I (r.forget i) (Grow.refl _ _) v ⟨p',xs',g1,g2,g3,g4,λj q z m s=>?_,g5⟩⟩
 rcases aK' z with ⟨_,z',_⟩ | ⟨n,z'⟩
 ·cases z'
 ·exact n (r.dist j i q _ _ z' at' m rfl s (by rw [h1,g1]))
def lookK (i:Nat):M (List (Int×D)):=λΓ=>match Γ[i]? with
 | some (some (.dic kvs))=>some (kvs,Γ)
 | _=>none
theorem dF' {K:PySem.W.Frag}{G I H:Hp}{σ:L2.St}{Γ Γ':Gm}{i:Nat}{kvs:List (Int×D)} (h:lookK i Γ=some (kvs,Γ')) (r:Rep K B G I H σ Γ):Γ'=Γ/\Γ[i]?=some (some (.dic kvs))/\∃ p xs,σ[i]?=some (some (.ref p))/\H p=some (.dK xs)/\IsK K I kvs xs:=by
 unfold lookK at h
 split at h
 ·rename_i e
  cases h
  obtain ⟨v,h1,p,xs,rfl,g1,_,_,g4⟩:=r.slot i _ e
  exact ⟨rfl,e,p,xs,h1,g1,g4⟩
 ·cases h
def inKF (neg:Bool) (d:D) (kvs:List (Int×D)):Option Bool:=match d with
 | .int k=>some (if neg then !(valD kvs k).isSome else (valD kvs k).isSome)
 | _=>none
def inK (neg:Bool) (i:Nat) (gk:M D):M Bool:=bnd gk λd=>bnd (lookK i) λkvs=>lft (inKF neg d kvs)
theorem lr' {K:PySem.W.Frag}{I H:Hp}{kvs:List (Int×D)}{xs:List (Key×V)}{p:Addr}{k:Int} (h:H p=some (.dK xs)) (hk:IsK K I kvs xs):∃ o,DGet H p (.int k) o/\o.isSome=(valD kvs k).isSome/\∀ d,valD kvs k=some d->∃ v,o=some v/\Is K I d v:=by
 refine ⟨valV xs (Sum.inl k),DGet.k (k:=Sum.inl k) h,?_,λd hd=>?_⟩
 ·rcases hk.val (k:=k) with ⟨d,v,e1,e2,_⟩ | ⟨e1,e2⟩
  ·rw [e1,e2];rfl
  ·rw [e1,e2];rfl
 ·rcases hk.val (k:=k) with ⟨d',v,e1,e2,e3⟩ | ⟨e1,e2⟩
  ·rw [hd] at e1;cases e1;exact ⟨v,e2,e3⟩
  ·rw [hd] at e1;cases e1
theorem qb' {i:Nat}{x:Str}{p1:Pos} (hu:X.A.units+1 < cLine) (ha:ED X B k gk) (hv:PE X (.Name x p1) (tVar i)):TD X B (.Compare k [.NotIn] [.Name x p1] pos) (inK true i gk):=PT.imp (qG' (mR' hu ha hv) rfl) λσ H Q q=>by
 obtain ⟨G,I,Γ,b,Γ',r,e1,kk⟩:=q
 obtain ⟨d,Γ1,e2,e3⟩:=ae' e1
 obtain ⟨kvs,Γ2,e4,e5⟩:=ae' e3
 obtain ⟨e6,rfl⟩:=ao' e5
 refine ⟨G,I,Γ,d,Γ1,r,e2,λy H1 I1 r1 g1 hd=>?_⟩
 obtain ⟨rfl,_,a,xs,f1,f2,f3⟩:=dF' e4 r1
 unfold inKF at e6
 split at e6
 ·rename_i n
  cases e6
  have:=am' hd
  subst this
  obtain ⟨o,o1,o2,_⟩:=lr' (k:=n) f2 f3
  refine ⟨_,f1,a,o,rfl,o1,?_⟩
  rw [o2]
  exact ⟨_,rfl,kk H1 I1 r1 g1⟩
 ·cases e6
end
end DL
namespace DL
open PySem PySem.W PySem.Spec PyProof.Rows L2
section
variable {prog:Program}{w:World}{A:Around}{E:Value->Shared->Prop}{s:Shared}
theorem l1' {l:Addr}{P:List Value->Prop}{κ:SortKind}{lt:Nat->Nat->Bool}{Q:Value->Shared->Prop} (h64:∀ vs,P vs->vs.length < 64) (O:Ord lt)
  (col:∀ Q':List Value->Shared->Prop,(∀ vs h' tk,P vs->(∀ b o,s.heap.get? b=some o->h'.get? b=some o)->s.heap.objs.size<=h'.objs.size->Q' vs { s with heap:=h',toks:=tk })->wpAny (model prog w) A.in1 (collect (.ref l)) Q' E s)
  (kind:∀ vs,P vs->∀ h' tk Q,(∀ b o,s.heap.get? b=some o->h'.get? b=some o)->2<=vs.length->Q κ { s with heap:=h',toks:=tk }->wpAny (model prog w) A.in1.in1 (keyKind' vs.toArray) Q (λ_ _=>False) { s with heap:=h',toks:=tk })
  (less:∀ vs,P vs->∀ h' tk i j C,(∀ b o,s.heap.get? b=some o->h'.get? b=some o)->i < vs.length->j < vs.length->C (lt i j) { s with heap:=h',toks:=tk }->wpAny (model prog w) A.in1.in1 (keyLt' κ (vs.getD i Value.none) (vs.getD j Value.none)) C (λ_ _=>False) { s with heap:=h',toks:=tk })
  (fin:∀ vs,P vs->∀ p h' tk D c,Pm vs.length p->Up lt p vs.length->(∀ b o,s.heap.get? b=some o->h'.get? b=some o)->s.heap.objs.size<=D->h'.get? D=some (seqObj "list" (byP vs p).toArray c)->Q (.ref D) { s with heap:=h',toks:=tk }) :
  wpAny (model prog w) A (call (.builtin "sorted") [Value.ref l]) Q E s:=by
 have line:64<=sizeLine:=by rw [sizeLine_eq];decide
 refine Calls.call_function_entry kind_sorted plain_sorted entry_sorted (args_sorted1 _) ?_;refine wpAny_bind (m:=checkCount "sorted" 1 1 _) (wpAny_pure (wpAny_bind (col _ λvs g tk hP kg above=>wpAny_bind (wpAny_newList ?_ (by have:=h64 vs hP;omega)))))
 have at':(g.push (seqObj "list" vs.toArray 0)).get? g.objs.size=some (seqObj "list" vs.toArray 0):=Heap.get?_push_size _ rfl
 have old:∀ (h':Heap),KeptBut g.objs.size (g.push (seqObj "list" vs.toArray 0)) h'->∀ b o,s.heap.get? b=some o->h'.get? b=some o:=λh' k b o x =>
  k b o (Nat.ne_of_lt (Nat.lt_of_lt_of_le (Heap.lt_size x) above)) (Heap.get?_push_of_some _ (kg b o x))
 refine wpAny_bind (wpAny_holding (wpAny_call_entry PyProof.Rows.slot_list_sort ⟨_,at',rfl⟩ PyProof.Rows.entry_list_sort ?_ (args_list_sort _)))
 refine lc' (s:={ s with heap:=g.push (seqObj "list" vs.toArray 0),toks:=tk }) (lt:=lt) (κ:=κ) at' (h64 vs hP) O (λh' Q' k two q=>wpAny_mono (kind vs hP h' tk Q' (old h' k) two q) (λ_ _ x=>x) λ_ _ x=>x.elim) (λh' i j C k=>less vs hP h' tk i j C (old h' k)) λp h' c hp up k here=>?_
 exact ⟨_,rfl,wpAny_pure ⟨_,rfl,fin vs hP p h' tk _ c hp up (old h' k) above here⟩⟩
theorem nG' {S:Addr}{Q:Bool->Shared->Prop} (hT:s.TypeIs (.ref S) "dict") (q:Q false s):wpAny (model prog w) A (Builtin.List.listLengthHint (.ref S)) Q E s:=by
 unfold Builtin.List.listLengthHint;refine wpAny_bind (wpAny_specialOf hT F.slot_dict_len.lookup ?_)
 have sp:splitId "dict.__len__"=some ("dict", "__len__"):=by decide +kernel
 dsimp only
 rw [sp]
 dsimp only
 refine wpAny_bind (wpAny_isInstance hT F.sub_dict_dict ?_);rw [if_neg (by decide)]
 exact wpAny_bind (wpAny_typeOf hT (wpAny_pure q))
theorem oN' (hh:A.handled=none){S:Addr}{κ:Type} [DecidableEq κ]{knd:KeyKind prog w κ}{kvs:List (κ×Value)} (hn:kvs.length < 64) (sm:(S == sysModules)=false) (hS:s.heap.DictOf knd S kvs){Q:List Value->Shared->Prop}
  (q:∀ vs h' tk,(vs.length=kvs.length/\∀ (i:Nat) v,vs[i]?=some v->∃ k x,kvs[i]?=some (k,x)/\knd.is k v=true)->(∀ b o,s.heap.get? b=some o->h'.get? b=some o)->s.heap.objs.size<=h'.objs.size->Q vs { s with heap:=h',toks:=tk }):wpAny (model prog w) A (collect (.ref S)) Q E s:=by
 have line:64<=sizeLine:=by rw [sizeLine_eq];decide
 obtain ⟨ep,hS⟩:=hS.dictAt
 have ltS:S < s.heap.objs.size:=hS.lt_size
 unfold collect
 refine wpAny_bind (wpAny_runValue (codeAny_builtin F.entry_proto_collect ?_));rw [Around.under_plainId F.plain_proto_collect _]
 refine wpAny_bind (m:=newList []) (wpAny_newObj_type (wpAny_pure ⟨plainId_quiet F.plain_list_iadd _,codeAny_builtin F.entry_list_iadd ?_⟩))
 rw [Around.under_plainId F.plain_list_iadd _];obtain ⟨h1,e1⟩:∃ h1,h1=s.heap.push { cls:=.type "list", data:=.seq ([]:List Value).toArray }:=⟨_,rfl⟩
 have sz1:h1.objs.size=s.heap.objs.size+1:=by rw [e1,Heap.size_push]
 have old1:∀ b o,s.heap.get? b=some o->h1.get? b=some o:=λb o x=>by rw [e1];exact Heap.get?_push_of_some _ x
 have own1:h1.get? s.heap.objs.size=some { cls:=.type "list", data:=.seq ([]:List Value).toArray }:=by rw [e1];exact Heap.get?_push_size _ rfl
 rw [← e1]
 have hS1:h1.DictAt knd S kvs ep:=hS.keep old1
 have neL:s.heap.objs.size≠S:=Nat.ne_of_gt ltS
 show wpAny _ A.in1 (Builtin.List.listExtendWith (.ref s.heap.objs.size) (.ref S) (.ref s.heap.objs.size)) _ _ { s with heap:=h1 }
 unfold Builtin.List.listExtendWith;refine wpAny_bind (wpAny_typeOf (s:={ s with heap:=h1 }) hS1.dictOf.typeIs ?_)
 rw [if_neg (by simp [Builtin.List.listSameRef,neL])]
 refine wpAny_bind (wpAny_pyIter_dict (s:={ s with heap:=h1 }) sm hS1 ?_)
 obtain ⟨I,eI⟩:∃ I,I=h1.objs.size:=⟨_,rfl⟩
 obtain ⟨h2,e2⟩:∃ h2,h2=h1.push { cls:=.type "dict_keyiterator", data:=.fields #[.ref S,.int 0 0,.int kvs.length 0,.int ep 0] }:=⟨_,rfl⟩
 have old2:∀ b o,h1.get? b=some o->h2.get? b=some o:=λb o x=>by rw [e2];exact Heap.get?_push_of_some _ x
 have ownI:h2.IsKeyIter I S 0 kvs.length ep:=⟨_,by rw [e2,eI];exact Heap.get?_push_size _ rfl,rfl,rfl⟩
 have hS2:h2.DictAt knd S kvs ep:=hS1.keep old2
 show wpAny _ _ _ _ _ { s with heap:=h1.push _ }
 rw [← e2]
 rw [← eI]
 refine wpAny_bind (wpAny_holding (nG' (s:={ s with heap:=h2 }) hS2.dictOf.typeIs ?_))
 rw [if_pos (by decide +kernel)]
 refine wpAny_bind (wpAny_rule (wpAny_bind (m:=Builtin.List.listTouch (.ref s.heap.objs.size)) ?_))
 have own2:=old2 _ _ own1
 refine wpAny_bind (m:=updateSeq s.heap.objs.size (·.push .none)) (wpAny_updateSeq own2 rfl ?_ (by simp) (by simp))
 have own3:=Heap.get?_update_self (Obj.mapSeq (·.push Value.none)) own2 rfl
 refine wpAny_updateSeq own3 rfl ?_ (by show (#[Value.none]:Array Value).size<=_;simp;omega) (by simp)
 have own4:=Heap.get?_update_self (Obj.mapSeq (·.pop)) own3 rfl
 obtain ⟨h4,e4⟩:∃ h4,h4=((h2.update s.heap.objs.size (Obj.mapSeq (·.push Value.none))).update s.heap.objs.size (Obj.mapSeq (·.pop))):=⟨_,rfl⟩
 have oth:KeptBut s.heap.objs.size h2 h4:=λb o ne x=>by rw [e4];exact (Heap.get?_update_other _ _ (Ne.symm ne)).trans ((Heap.get?_update_other _ _ (Ne.symm ne)).trans x)
 rw [← e4] at own4
 show wpAny _ _ _ _ _ { s with heap:=Heap.update (Heap.update h2 _ _) _ _ }
 rw [← e4]
 have neI:s.heap.objs.size≠I:=by rw [eI,sz1];exact Nat.ne_of_lt (Nat.lt_succ_self _)
 have neSI:S≠I:=by rw [eI,sz1];exact Nat.ne_of_lt (Nat.lt_succ_of_lt ltS)
 have W:=(Walks.dictKeys (prog:=prog) (w:=w) (A:=A.in1) (knd:=knd) hh I S neSI kvs ep).toS
 refine wpAny_pure ⟨plainId_quiet F.plain_extend_loop _,codeAny_extend_loopS W (by omega) s.heap.objs.size (by simp [neI,neL]) _ kvs.length 0 _ _ _ rfl (Nat.zero_le _) ?_ own4 (ItemsOf.nil _) λs' acc c mv here it=>?_⟩
 ·obtain ⟨o,a1,a2⟩:=ownI
  obtain ⟨o',es',b1,b2⟩:=hS2
  exact ⟨⟨o,oth _ _ (Ne.symm neI) a1,a2⟩,⟨o',es',oth _ _ (Ne.symm neL) b1,b2⟩⟩
 ·obtain ⟨h',g',d',tk',os'⟩:=s';have eg:g'=s.gens:=mv.gens
  have ed:d'=s.drawn:=mv.drawn
  have eo:os'=s.os:=mv.os
  subst eg;subst ed;subst eo
  refine wpAny_bind (wpAny_load here (wpAny_pure ?_))
  have lt':s.heap.objs.size < h'.objs.size:=Heap.lt_size here
  refine q acc.toList h' tk' ⟨by rw [Array.length_toList];exact it.1,λj v hj=>it.2 j v (by simpa using hj)⟩ (λb o x=>mv.heap b o (λhb=>?_) (oth b o (Nat.ne_of_lt (Heap.lt_size x)) (old2 _ _ (old1 _ _ x)))) (Nat.le_of_lt lt')
  have lb:=Heap.lt_size x
  rcases List.mem_cons.mp hb with z | z
  ·exact Nat.ne_of_lt lb z
  ·rw [List.mem_singleton.mp z,eI,sz1] at lb
   exact absurd lb (Nat.not_lt.mpr (Nat.le_succ _))
end
end DL
namespace DL
open PySem PySem.W PySem.Spec PyProof.Rows L2
section
variable {X:Cx}
theorem jL' (hu:X.A.units+100 < cLine) (hc:X.calm=true):CallR X (.builtin "sorted") (λxs H Q=>∃ (p:Addr) (kx:List (Key×V)) (ns:List Int),xs=[.ref p]/\H p=some (.dK kx)/\kx.map (·.1)=ns.map Sum.inl/\ns.length < 64 ∧
  ∀ l q,Pm (ns.map D.int).length q->permD q (ns.map D.int)=sortD (ns.map D.int)->H l=none->Q (.ref l) (upd H l (.lst (permV q (ns.map V.int))))):=by
 intro pins s σ H xs us Q I r h
 obtain ⟨p,kx,ns,rfl,hp,ek,h64,k⟩:=h
 obtain ⟨u,rfl,ru⟩:=vals1 r
 cases ru
 obtain ⟨z,hd,vs,rel,dd⟩:=iZ' I.hok hp
 have lk:kx.length=ns.length:=by have:=congrArg List.length ek;simpa using this
 have lv:vs.length=ns.length:=by rw [← rel.length];exact lk
 have ha:IsA X.K H (ns.map D.int) (ns.map V.int):=by
  clear ek h64 k lk lv
  induction ns with
  | nil=>exact IsA.nil
  | cons n ns ih=>exact IsA.cons (by rw [Is]) ih
 have cm:cmAll (ns.map D.int)=true:=by
  unfold cmAll
  rw [List.all_eq_true]
  intro a ha
  rw [List.all_eq_true]
  intro b hb
  obtain ⟨i,_,rfl⟩:=List.mem_map.mp ha
  obtain ⟨j,_,rfl⟩:=List.mem_map.mp hb
  rfl
 have isI:∀ its:List Value,Vals (ns.map V.int) its->∀ k,k < its.length->∃ i t,its.getD k Value.none=.int i t/\(ns.map D.int).getD k .non=.int i:=λits rv k hk=>by
  obtain ⟨x,a1,a2,a3,_⟩:=at_k ha rv hk
  obtain ⟨i,_,ei⟩:=List.mem_map.mp a3
  rw [← ei] at a1
  rw [am' a1] at a2
  obtain ⟨t,a2⟩:=a2
  exact ⟨_,t,a2,ei.symm⟩
 refine l1' (P:=λits=>Vals (ns.map V.int) its) (κ:=oneType') (lt:=λi j=>dl ((ns.map D.int).getD i .non) ((ns.map D.int).getD j .non)) (λits rv=>?_) (gO' _) (λQ' q=>?_) (λits rv h' tk Q' keep two q=>?_) (λits rv h' tk i j C keep hi hj hc=>?_) (λits rv q h' tk D' c hp' up keep above here=>?_)
 ·rw [← rv.length,List.length_map];exact h64
 ·refine oN' (A:=X.A.in1) (I.ok.hd hc) (by omega) hd dd λits h' tk hits keep sz=>q its h' tk ?_ keep sz
  refine eJ' (by rw [List.length_map,hits.1,lv]) λi x u e1 e2=>?_
  obtain ⟨kk,xx,f1,f2⟩:=hits.2 i u e2
  obtain ⟨n,g1,rfl⟩:=getMap e1
  have h1:(vs.map (·.1))[i]?=some kk:=by rw [List.getElem?_map,f1];rfl
  rw [← rel.keys,ek,List.getElem?_map,g1] at h1
  cases h1
  have f3:keyIs (Sum.inl n) u=true:=f2
  rcases aZ' f3 with ⟨i',t,e,e'⟩ | ⟨y,t,e,e'⟩
  ·cases e;exact ⟨t,e'⟩
  ·cases e
 ·refine kas_kind (T:=.type "int") two (λv hv=>?_) (by decide) (by decide) q
  obtain ⟨k,hk,rfl⟩:=List.getElem_of_mem hv
  obtain ⟨i,t,e,_⟩:=isI its rv k hk
  rw [List.getD_eq_getElem?_getD,List.getElem?_eq_getElem hk] at e
  change its[k]=_ at e
  rw [e]
  exact Looks.now
 ·obtain ⟨a,t1,e1,f1⟩:=isI its rv i hi
  obtain ⟨b,t2,e2,f2⟩:=isI its rv j hj
  rw [f1,f2,c3'] at hc
  rw [e1,e2]
  exact kat_lt_int hc
 ·have n1:its.length=(ns.map D.int).length:=by rw [← rv.length,List.length_map,List.length_map]
  rw [n1] at hp' up
  have hv:Vals (permV q (ns.map V.int)) (byP its q):=by
   refine eJ' (by simp [permV,byP]) λi x u e1 e2=>?_
   obtain ⟨j,f1,rfl⟩:=getMap e1
   obtain ⟨j',f2,rfl⟩:=getMap e2
   rw [f1] at f2
   cases f2
   have hj:j < (ns.map D.int).length:=by
    have h1:j∈q.toList:=List.mem_of_getElem? f1
    have h2:=(Array.perm_iff_toList_perm.mp hp').mem_iff.mp h1
    simpa using h2
   obtain ⟨x,_,e4,_,e5⟩:=at_k ha rv (k:=j) (by omega)
   rw [List.getD_eq_getElem?_getD,e5]
   exact e4
  refine ⟨.ref D',_,I.laid (t':=tk) keep above (o:=.lst (permV q (ns.map V.int))) ⟨?_,byP its q,c,hv,here⟩,rfl,k D' q hp' (iu' hp' up cm) (I.hok.fresh above)⟩
  show (permV q (ns.map V.int)).length<=sizeLine
  rw [permV,List.length_map,Array.length_toList,hp'.size,sizeLine_eq,List.length_map]
  omega
end
section
variable {X:Cx}{B:BB}{e k v f':Expr}{es:List Expr}{pos p:Pos}{g:M (List (Int×D))}{gk gv gx:M D}{kr:Nat}
def keysD (kvs:List (Int×D)):List D:=kvs.map λq=>D.int q.1
def sortKF (kvs:List (Int×D)):Option (List D):=if kvs.length < 64 then some (sortD (keysD kvs)) else none
def getKF (d:D) (kvs:List (Int×D)):Option D:=match d with
 | .int k=>valD kvs k
 | _=>none
def getK (i:Nat) (gk:M D):M D:=bnd (lookK i) λ_=>bnd gk λd=>bnd (lookK i) λkvs=>lft (getKF d kvs)
theorem hS' {i:Nat}{x:Str}{p1:Pos} (hr:Room kr X.A) (hv:PE X (.Name x p1) (tVar i)) (hk:ED X B k gk) (hs:NoSl k:=by exact λ_ _=>rfl):ED X B (.Subscript (.Name x p1) k pos) (getK i gk):=PE.imp (pH' (lM' hr) hv hk hs) λσ H Q q=>by
 obtain ⟨G,I,Γ,d,Γ',r,e1,kk⟩:=q
 obtain ⟨kv0,Γ1,e2,e3⟩:=ae' e1
 obtain ⟨n,Γ2,e4,e5⟩:=ae' e3
 obtain ⟨kvs,Γ3,e6,e7⟩:=ae' e5
 obtain ⟨e8,rfl⟩:=ao' e7
 obtain ⟨rfl,_,a,xs,f1,_,_⟩:=dF' e2 r
 refine ⟨_,f1,G,I,Γ1,n,Γ2,r,e4,λy H1 I1 r1 g1 hn=>?_⟩
 obtain ⟨rfl,_,a',xs',f4,f5,f6⟩:=dF' e6 r1
 have hp:a'=a:=by rw [f1] at f4;cases f4;rfl
 subst hp
 unfold getKF at e8
 split at e8
 ·rename_i m
  have:=am' hn
  subst this
  obtain ⟨o,o1,_,o3⟩:=lr' (k:=m) f5 f6
  obtain ⟨v,rfl,hv⟩:=o3 _ e8
  exact ⟨a',v,rfl,o1,kk v H1 I1 r1 g1 hv⟩
 ·cases e8
def putKF (n d:D) (kvs:List (Int×D)):Option (List (Int×D)):=match n with
 | .int k=>if (valD kvs k).isNone=true/\kvs.length < lim then some (kvs++[(k,d)]) else none
 | _=>none
def wrK (i:Nat) (F:List (Int×D)->Option (List (Int×D))):M Fl:=λΓ=>match Γ[i]? with
 | some (some (.dic kvs))=>match F kvs with
  | some es=>some (.nx,Γ.set i (some (.dic es)))
  | none=>none
 | _=>none
theorem qc' {i:Nat}{F:List (Int×D)->Option (List (Int×D))}{Γ Γ':Gm}{f:Fl} (h:wrK i F Γ=some (f,Γ')):f=.nx/\∃ kvs es,Γ[i]?=some (some (.dic kvs))/\F kvs=some es/\Γ'=Γ.set i (some (.dic es)):=by
 unfold wrK at h
 split at h
 ·rename_i kvs e
  split at h
  ·rename_i es e2
   cases h
   exact ⟨rfl,kvs,es,e,e2,rfl⟩
  ·cases h
 ·cases h
def putK' (i:Nat) (gk gv:M D):M Fl:=bnd gv λd=>bnd (lookK i) λ_=>bnd gk λn=>wrK i (putKF n d)
theorem qd' {i:Nat}{x:Str}{p1 pos':Pos} (hr:Room kr X.A) (hv:PE X (.Name x p1) (tVar i)) (hk:ED X B k gk) (he:ED X B e gv) (hs:swapsWith e (some (.Subscript (.Name x p1) k pos')) pos.line X.env=pure false:=by rfl) :
  SD X B (.Assign [.Subscript (.Name x p1) k pos'] e pos) (putK' i gk gv):=PS.imp (pI' (lM' hr) hv hk he hs) λE σ H q=>by
 obtain ⟨G,I,Γ,fl,Γ',r,e1,kk⟩:=q
 obtain ⟨d,Γ1,e2,e3⟩:=ae' e1
 obtain ⟨kv0,Γ2,e4,e5⟩:=ae' e3
 obtain ⟨n,Γ3,e6,e7⟩:=ae' e5
 obtain ⟨rfl,kvs,es,w1,w2,rfl⟩:=qc' e7
 refine ⟨G,I,Γ,d,Γ1,r,e2,λv H1 I1 r1 g1 hd=>?_⟩
 obtain ⟨rfl,_,a,xs,f1,f2,_⟩:=dF' e4 r1
 refine ⟨_,f1,G,I1,Γ2,n,Γ3,r1,e6,λy H2 I2 r2 g2 hn=>?_⟩
 obtain ⟨u,h1,a',xs',rfl,f5,f6,f7,f8⟩:=r2.slot i _ w1
 have hp:a'=a:=by rw [f1] at h1;cases h1;rfl
 subst hp
 unfold putKF at w2
 split at w2
 ·rename_i m
  obtain ⟨⟨c1,c2⟩,rfl⟩:=aw' w2
  have:=am' hn
  subst this
  have none':valV xs' (Sum.inl m)=none:=by
   rcases f8.val (k:=m) with ⟨d',v',w1,_⟩ | ⟨_,w2⟩
   ·rw [w1] at c1;cases c1
   ·exact w2
  have ln:xs'.length < sizeLine:=by rw [f8.len];exact Nat.lt_of_lt_of_le c2 (dz' (Nat.le_refl _))
  refine ⟨a',_,rfl,DPut.k (k:=Sum.inl m) f5 ln,?_⟩
  rw [on' v none']
  exact kk σ _ I2 (r2.writeK w1 h1 (f8.snoc (hd.mono g2.up))) (g1.trans g2)
 ·cases w2
theorem oO' {tk tv:TE} (hk:PE X k tk) (hv:PE X v tv):PE X (.Dict [some k] [v] pos) (λσ H Q=>∀ p,H p=none->tk σ (upd H p (.dK [])) λy H1=>tv σ H1 λx H2=>∃ n,y=.int n/\H2 p=some (.dK [])/\Q (.ref p) (upd H2 p (.dK [(Sum.inl n,x)]))):=by
 intro pins s σ H Q I h
 refine wpAny_Dict_walk (knd:=mixKind X.prog X.w) rfl rfl (by simp) (by simp) ?_
 have I0:=I.laid (a:=s.heap.objs.size) (o:=.dK []) (t':=s.toks) (λ_ _ q=>Heap.get?_push_of_some _ q) (Nat.le_refl _) (oo' s.heap I.big)
 refine pairTrees_cons_walk (thn (hk pins _ σ _ _ I0 (h _ (I.hok.fresh (Nat.le_refl _)))) λu s1 ⟨y,H1,I1,r1,q1⟩=>thn (hv pins s1 σ H1 _ I1 q1) λw s2 ⟨x,H2,I2,r2,q2⟩=>?_)
 obtain ⟨n,rfl,hp,q⟩:=q2
 refine pairTrees_nil_walk ⟨[(Sum.inl n,w)],⟨gE' (k:=Sum.inl n) r1,rfl,trivial⟩,?_,λh' dd hs=>?_⟩
 ·obtain ⟨_,_,vs,rel,dd⟩:=iZ' I2.hok hp
  cases rel
  exact dd
 ·obtain ⟨_,hd,_⟩:=iZ' I2.hok hp
  have he:∃ q,h'.get? s.heap.objs.size=some q:=let ⟨q,_,_,hq,_⟩:=dd;⟨q,hq⟩
  refine ⟨.ref _,_,hF' I2 (by rw [hp];exact True.intro) hs he (mP' (kvs:=[(Sum.inl n,x)]) (by rw [sizeLine_eq];simp) hd (.cons ⟨rfl,r2⟩ .nil) dd),rfl,q⟩
def dlit1 (gk gv:M D):M (List (Int×D)):=bnd gk λn=>bnd gv λd=>lft (match n with
 | .int k=>some [(k,d)]
 | _=>none)
theorem oP' (hk:ED X B k gk) (hv:ED X B v gv):EK X B (.Dict [some k] [v] pos) (dlit1 gk gv):=PE.imp (oO' hk hv) λσ H Q q p hp=>by
 obtain ⟨G,I,Γ,kvs,Γ',r,e1,kk⟩:=q
 obtain ⟨n,Γ1,e2,e3⟩:=ae' e1
 obtain ⟨d,Γ2,e4,e5⟩:=ae' e3
 obtain ⟨e6,rfl⟩:=ao' e5
 have gp:=r.gFree hp
 have ip:=r.iFree hp
 refine ⟨upd G p (.dK []),I,Γ,n,Γ1,r.guard hp _,e2,λy H1 I1 r1 g1 hn=>⟨upd G p (.dK []),I1,Γ1,d,_,r1,e4,λx H2 I2 r2 g2 hd=>?_⟩⟩
 split at e6
 ·rename_i m
  cases e6
  have:=am' hn
  subst this
  have i1:=g1.keepsOut ip
  have i2:=g2.keepsOut i1
  refine ⟨m,rfl,r2.gH p _ av',?_⟩
  obtain ⟨r3,ap⟩:=(r2.reguard (o':=.dK [(Sum.inl m,x)]) i2).unguard gp
  exact kk p _ _ I2 r3 ((g1.trans g2).unguard) av' i2 gp ap ⟨rfl,IsA.cons hd IsA.nil⟩
 ·cases e6
def ckF (h:List R->Option (R×List R)) (ds:List D):Option (List (Int×D)):=match h (ds.map .val) with
 | some (.dic d,_)=>some d
 | _=>none
theorem t_ck {K:PySem.W.Frag}{E:XK}{h:List R->Option (R×List R)}{t:M (List D)}:∀ σ H Q,tK K B (fn1 (ckF h) t) σ H Q->tCall (spD K h) [] E (tAD K B t) σ H Q:=λσ H Q q=>by
 obtain ⟨G,I,Γ,d,Γ',r,e1,kk⟩:=q
 obtain ⟨ds,Γ1,e2,e3⟩:=ae' e1
 obtain ⟨e4,rfl⟩:=ao' e3
 refine ⟨G,I,Γ,ds,_,r,e2,λvs H1 I1 r1 g1 h1=>?_⟩
 show spD K h (vs++[]) H1 Q E
 rw [List.append_nil]
 unfold ckF at e4
 cases e5:h (ds.map .val) with
 | none=>rw [e5] at e4;cases e4
 | some q =>
  obtain ⟨rr,rs'⟩:=q
  rw [e5] at e4
  cases rr with
  | dic d' =>
   cases e4
   refine ⟨H1,I1,ds.map .val,.dic d,rs',dh' r1 h1,co' ds,e5,λv H' I' r' g' hv=>?_⟩
   obtain ⟨r2,g2⟩:=dR' r1 r' g'
   obtain ⟨q,xs,rfl,b2,b3,b4,b5,b6⟩:=hv
   exact kk q xs H' I' r2 (g1.trans g2) b2 b3 (r1.gFree b4) (r1.apart b4) b6
  | val _=>cases e4
  | own _=>cases e4
  | bor _=>cases e4
  | fro _=>cases e4
theorem qe' {kn:Nat}{f:Addr}{fd:FuncData}{ps:List Str}{x:Str}{h:List R->Option (R×List R)}{t:M (List D)} (F:FnOk X.prog X.w X.K X.mg X.base CX0 kn f fd ps (spD X.K h)) (hr:Room kn X.A) (hg:Gl X x) (hm:X.mg x=some (.ref f)) (hk:PySem.W.keepIn X.K (.ref f)=true) (hb:Binds X.K fd ps []) (ha:AD X B (e::es) t)
  (hdb:(x == ("__debug__":Str))=false:=by decide) (he:starEach (e::es) X.env=(false,eval e X.env)::starEach es X.env:=by rfl) (hpl:(backTo pos (starEach es X.env)).any (·.1)=false:=by rfl) :
  EK X B (.Call (.Name x p) (e::es) [] pos) (fn1 (ckF h) t):=PE.imp (fL' F hr hg hm hk hb .nil pass0 ha hdb he hpl) t_ck
end
end DL
namespace DL
open PySem PySem.W PySem.Spec PyProof.Rows L2
open PySem.SeqAt
open PySem.AutoSeq1 (wpAny_loadPart')
open PySem.MeetsSeq PySem.MeetsSeq2 PySem.MeetsSeq3
section
variable {prog:Program}{w:World}{A:Around}{E:Value->Shared->Prop}{s:Shared}
end
section
variable {X:Cx}{B:BB}{a st e:Expr}{pos p p2:Pos}{ga gs:M D}
end
end DL
namespace DL
open PySem PySem.W PySem.Spec PyProof.Rows L2
def altM {α:Type} (a b:M α):M α:=λΓ=>match a Γ with
 | some r=>some r
 | none=>b Γ
theorem jM' {α:Type}{a b:M α}{Γ Γ':Gm}{x:α} (h:altM a b Γ=some (x,Γ')):a Γ=some (x,Γ')\/b Γ=some (x,Γ'):=by
 unfold altM at h
 split at h
 ·rename_i e
  cases h
  exact .inl e
 ·exact .inr h
section
variable {X:Cx}{B:BB}{e:Expr}{st:Stmt}{pos:Pos}
theorem bE' {a b:M D} (h1:ED X B e a) (h2:ED X B e b):ED X B e (altM a b):=λpins s σ H Q I q=>by
 obtain ⟨G,I',Γ,d,Γ',r,e1,k⟩:=q
 rcases jM' e1 with e1 | e1
 ·exact h1 pins s σ H Q I ⟨G,I',Γ,d,Γ',r,e1,k⟩
 ·exact h2 pins s σ H Q I ⟨G,I',Γ,d,Γ',r,e1,k⟩
theorem rC' {a b:M Fl} (h1:SD X B st a) (h2:SD X B st b):SD X B st (altM a b):=λpins s σ H E I q=>by
 obtain ⟨G,I',Γ,d,Γ',r,e1,k⟩:=q
 rcases jM' e1 with e1 | e1
 ·exact h1 pins s σ H E I ⟨G,I',Γ,d,Γ',r,e1,k⟩
 ·exact h2 pins s σ H E I ⟨G,I',Γ,d,Γ',r,e1,k⟩
end
end DL
namespace DL
open PySem PySem.W PySem.Spec PyProof.Rows L2
open PySem.SeqAt
open PySem.AutoSeq1 (wpAny_loadPart')
open PySem.MeetsSeq PySem.MeetsSeq2 PySem.MeetsSeq3
section
variable {X:Cx}{B:BB}{e a b st:Expr}{es:List Expr}{pos p p2:Pos}{t:M (List D)}{ga gb gs:M D}{kr:Nat}
def reprG (ds:List D):Option D:=match ds with
 | [d]=>if (pd d).showable=true/\(pd d).depth<=50/\(pd d).shown.length<=sizeLine then some (.str (pd d).shown) else none
 | _=>none
theorem jN' (hr:Room kr X.A) (hg:Gl X "repr") (hm:X.mg "repr"=none) (ha:AD X B [e] t) (he:starEach [e] X.env=(false,eval e X.env)::starEach [] X.env:=by rfl) (hpl:(backTo pos (starEach [] X.env)).any (·.1)=false:=by rfl) :
  ED X B (.Call (.Name "repr" p) [e] [] pos) (fn1 reprG t):=d8' (l0' (hu100 hr) hr.gd) (λds d e B G I H σ Γ xs Q r h k=>by
 unfold reprG at e
 split at e
 ·obtain ⟨ok,rfl⟩:=aw' e
  obtain ⟨x,rfl,hx⟩:=h.one
  exact ⟨_,x,rfl,hx.mono r.iH,ok,k.now r (Is.str _)⟩
 ·cases e) hg hm boot_repr ha (by decide) (by decide) he hpl
end
section
variable {prog:Program}{w:World}{A:Around}{E:Value->Shared->Prop}{s:Shared}
theorem eL' {α β:Type}{f g:α->Option β}:∀ {l:List α},(∀ x∈l,f x=g x)->l.filterMap f=l.filterMap g
 | [],_=>rfl
 | x::l,h=>by
  rw [List.filterMap_cons,List.filterMap_cons,h x List.mem_cons_self,eL' λy hy=>h y (List.mem_cons_of_mem _ hy)]
theorem jO' {t sl:Addr}{items:List Value}{tk:Tok}{Q:Value->Shared->Prop} (ht:IsTup s.heap t items.toArray) (hz:items.length<=sizeLine) (hs:s.heap.IsSliceOf sl .none .none (.int (-1) tk))
  (h:Q (.ref s.heap.objs.size) { s with heap:=s.heap.push { cls:=.type "tuple", data:=.seq items.reverse.toArray } }):wpAny (model prog w) A (getItem (.ref t) (.ref sl)) Q E s:=by
 have htake:sizeOk (.seq items.reverse.toArray):=by
  show items.reverse.toArray.size<=sizeLine
  simpa using hz
 obtain ⟨os,hos,hcs,hds⟩:=id hs
 have hTs:s.TypeIs (.ref sl) "slice":=⟨os,hos,hcs⟩
 unfold getItem
 try with_reducible refine wpAny_holding ?_
 first | refine wpAny_bind (wpAny_pure ?_) | skip
 refine wpAny_bind (wpAny_sequenceKey ht.typeIs (by decide) ?_)
 refine wpAny_bind (wpAny_callSpecial?_slot (name:=Str.ofString "__getitem__") ht.typeIs PyProof.Rows.slot_tuple_getitem
  (wpAny_call_entry PyProof.Rows.slot_tuple_getitem ht.typeIs entry_tuple_getitem ?_ (args_tuple_getitem _ _)))
 show wpAny _ _ (Builtin.Tuple.tupleItemsOf (.ref t) >>= _) _ _ s
 refine wpAny_bind (tupleItemsOf_ ht ?_)
 refine wpAny_bind (wpAny_typeOf hTs ?_)
 rw [if_pos (by decide)]
 have e1:Builtin.Slice.sliceAdjust none none (-1) (items.toArray.size:Int)=((items.length:Int) - 1,-1):=by
  rw [List.size_toArray];rfl
 have e2:Builtin.Slice.slicePlaces ((items.length:Int) - 1) (-1) (-1)=items.length:=by
  unfold Builtin.Slice.slicePlaces
  rw [if_neg (by decide)]
  have q:((items.length:Int) - 1 - -1 - 1) / (- -1)=(items.length:Int) - 1:=by
   rw [show (- -1:Int)=1 by decide,Int.ediv_one];omega
  rw [q]
  split<;>omega
 have ap:∀ {Q':Int×Int×Nat->Shared->Prop}{A':Around}{E':Value->Shared->Prop},Q' ((items.length:Int) - 1,-1,items.length) s->wpAny (model prog w) A' (Builtin.Slice.sliceApplied (.ref sl) (pure (items.toArray.size:Int))) Q' E' s:=λ{Q' A' E'} q=>by
  unfold Builtin.Slice.sliceApplied Builtin.Slice.sliceFields
  refine wpAny_bind (wpAny_bind (wpAny_field hos hds (x:=.none) rfl (wpAny_bind (wpAny_field hos hds (x:=.none) rfl (wpAny_bind (wpAny_field hos hds (x:=.int (-1) tk) rfl (wpAny_pure ?_)))))))
  refine wpAny_bind (HT.gC' (.int (-1) tk) ?_)
  show wpAny _ _ (if ((-1:Int) == 0)=true then _ else _) _ _ s
  rw [if_neg (by decide)]
  refine wpAny_bind (HT.gC' .none (wpAny_bind (HT.gC' .none (wpAny_bind (wpAny_pure ?_)))))
  show wpAny _ _ (match Builtin.Slice.sliceAdjust none none (-1) (items.toArray.size:Int) with | (lo,hi)=>pure (lo,(-1:Int),Builtin.Slice.slicePlaces lo hi (-1))) _ _ s
  rw [e1]
  show wpAny _ _ (pure ((items.length:Int) - 1,(-1:Int),Builtin.Slice.slicePlaces ((items.length:Int) - 1) (-1) (-1))) _ _ s
  rw [e2]
  exact wpAny_pure q
 refine wpAny_bind (ap ?_)
 show wpAny _ _ (if ((((items.length:Int) - 1) == 0&&(-1:Int) == 1&&items.length == items.toArray.size)=true) then _ else _) _ _ s
 rw [if_neg (by simp)]
 have pick:((List.range items.length).filterMap λ(k:Nat)=>items.toArray[(((items.length:Int) - 1)+(k:Int)*-1).toNat]?).toArray=items.reverse.toArray:=by
  congr 1
  apply List.ext_getElem?
  intro i
  have:(List.range items.length).filterMap (λ(k:Nat)=>items.toArray[(((items.length:Int) - 1)+(k:Int)*-1).toNat]?)=(List.range items.length).filterMap (λ(k:Nat)=>items.reverse[k]?):=by
   refine eL' λk hk=>?_
   have hk:=List.mem_range.mp hk
   rw [List.getElem?_reverse hk]
   have:(((items.length:Int) - 1)+(k:Int)*-1).toNat=items.length - 1 - k:=by omega
   rw [this];simp
  rw [this]
  have all:∀ l:List Value,(List.range l.length).filterMap (λk=>l[k]?)=l:=λl=>by
   have:=krv_all l.toArray
   simpa using this
  have:=all items.reverse
  rw [List.length_reverse] at this
  rw [this]
 rw [pick]
 first
  | exact wpAny_bind (m:=Builtin.Tuple.tupleExact _) (wpAny_newObj_type (wpAny_pure ⟨_,rfl,wpAny_pure h⟩) htake)
  | exact wpAny_bind (m:=Builtin.Tuple.tupleExact _) (wpAny_newObj_type (wpAny_bind (wpAny_pure (wpAny_pure ⟨_,rfl,wpAny_pure h⟩))) htake)
  | exact wpAny_bind (wpAny_bind (m:=Builtin.Tuple.tupleExact _) (wpAny_newObj_type (wpAny_pure (wpAny_pure ⟨_,rfl,wpAny_pure h⟩)) htake))
  | exact wpAny_bind (wpAny_bind (m:=Builtin.Tuple.tupleExact _) (wpAny_newObj_type (wpAny_pure ⟨_,rfl,wpAny_pure h⟩) htake))
end
section
variable {X:Cx}{B:BB}{e a b st:Expr}{pos p p2:Pos}{ga gb gs:M D}
def rRvT (K:PySem.W.Frag):R2:=λx y H Q=>∃ b xs,x=.ref b/\y=.int (-1)/\SqT K H b xs/\∀ l,H l=none->Q (.ref l) (upd H l (.tup xs.reverse))
theorem qf' {ta ts:TE} (he:PE X a ta) (hs:PE X st ts):PE X (.Subscript a (.Slice none none (some st) p2) pos) (tOp (rRvT X.K) ta ts):=by
 intro pins s σ H Q I h
 refine Subscript_ (thn (he pins s σ H _ I h) λv s1 ⟨x,H1,I1,r1,q1⟩=>?_)
 refine wpAny_Slice ?_
 rw [evalPart_none,evalPart_some]
 refine wpAny_pure (wpAny_pure (thn (hs pins s1 σ H1 _ I1 q1) λvk s2 ⟨y,H2,I2,r2,q2⟩=>?_))
 obtain ⟨b,xs,rfl,rfl,hx,q⟩:=q2
 cases r1
 have I3:Inv X pins σ H2 { s2 with heap:=s2.heap.push { cls:=.type "slice", data:=.fields #[.none,.none,vk] } }:=I2.kept (t':=s2.toks) λb ob q=>Heap.get?_push_of_some _ q
 obtain ⟨its,r,ht,hz⟩:=I3.tuple hx
 have hl:=r.length
 show wpAny (model X.prog X.w) X.A (subscriptTail a (.Slice none none (some st) p2) (.ref b) (.ref s2.heap.objs.size)) (EP X pins σ Q) X.xe { s2 with heap:=s2.heap.push { cls:=.type "slice", data:=.fields #[.none,.none,vk] } }
 refine tail_any (ops:=[.ref b,.ref s2.heap.objs.size]) ht.typeIs PyProof.Rows.slot_tuple_getitem.lookup ?_ (by with_unfolding_all rfl)
 obtain ⟨tk,rfl⟩:=r2
 refine jO' ht (by omega) (Heap.IsSliceOf.new ..) ?_
 refine ⟨.ref _,_,I3.laid (t':=s2.toks) (o:=.tup xs.reverse) (λb ob q=>Heap.get?_push_of_some _ q) (Nat.le_refl _) ?_,rfl,q _ (I3.hok.fresh (Nat.le_refl _))⟩
 exact ⟨by rw [List.length_reverse];omega,_,Vals.rev r,IsTup.new _ _⟩
def rvTF (c k:D):Option D:=match c,k with
 | .tup xs,.int j=>if j=-1 then some (.tup xs.reverse) else none
 | _,_=>none
theorem qg' (ha:ED X B a ga) (hs:ED X B st gs):ED X B (.Subscript a (.Slice none none (some st) p2) pos) (op2 rvTF ga gs):=PE.imp (qf' ha hs) (t_op λa b d e B G I H σ Γ x y Q r hx hy k=>by
 unfold rvTF at e
 split at e
 ·obtain ⟨rfl,rfl⟩:=aw' e
  obtain ⟨q,zs,rfl,h3,h4⟩:=as' hx
  exact ⟨q,zs,rfl,am' hy,Same.sqT r.iH h3,λl hl=>k.tup r hl h4.reverse⟩
 ·cases e)
def rSlW (K:PySem.W.Frag):V->Option Int->Option Int->Hp->VK->Prop:=λx lo hi H Q=>∃ a xs,x=.ref a/\SqT K H a xs ∧
 (HT.sIx xs.length 0 lo=0/\HT.sIx xs.length xs.length hi=xs.length)/\Q (.ref a) H
theorem oQ':SlR X (rSlW X.K):=by
 intro pins s σ H x v vl vu lo hi sl Q I rx hs pl pu h
 obtain ⟨a,xs,rfl,hx,hw,q⟩:=h
 cases rx
 obtain ⟨its,r,ht,hz⟩:=I.tuple hx
 have hlen:its.toArray.size=xs.length:=by rw [List.size_toArray];exact r.length.symm
 refine ⟨"tuple", _,PyProof.Rows.slot_tuple_getitem.lookup,ht.typeIs,?_⟩
 obtain ⟨os,hos,hcs,hds⟩:=id hs
 have hTs:s.TypeIs (.ref sl) "slice":=⟨os,hos,hcs⟩
 unfold getItem
 try with_reducible refine wpAny_holding ?_
 first | refine wpAny_bind (wpAny_pure ?_) | skip
 refine wpAny_bind (wpAny_sequenceKey ht.typeIs (by decide) ?_)
 refine wpAny_bind (wpAny_callSpecial?_slot (name:=Str.ofString "__getitem__") ht.typeIs PyProof.Rows.slot_tuple_getitem
  (wpAny_call_entry PyProof.Rows.slot_tuple_getitem ht.typeIs entry_tuple_getitem ?_ (args_tuple_getitem _ _)))
 show wpAny _ _ (Builtin.Tuple.tupleItemsOf (.ref a) >>= _) _ _ s
 refine wpAny_bind (tupleItemsOf_ ht ?_)
 refine wpAny_bind (wpAny_typeOf hTs ?_)
 rw [if_pos (by decide)]
 refine wpAny_bind (HT.f5' hs pl pu ?_)
 rw [hlen,hw.1,hw.2]
 show wpAny _ _ (if (((0:Nat):Int) == 0&&(1:Int) == 1&&(xs.length - 0) == xs.length)=true then _ else _) _ _ s
 rw [if_pos (by simp)]
 unfold Builtin.Tuple.tupleIsExact
 refine wpAny_bind (wpAny_bind (wpAny_typeOf ht.typeIs (wpAny_pure ?_)))
 rw [if_pos (by decide)]
 exact wpAny_bind (wpAny_rule (wpAny_pure ⟨_,rfl,wpAny_pure ⟨.ref a,H,I,rfl,q⟩⟩))
def slWF (d:D) (lo hi:Option Int):Option D:=match d with
 | .tup ds=>if HT.sIx ds.length 0 lo=0/\HT.sIx ds.length ds.length hi=ds.length then some (.tup ds) else none
 | _=>none
theorem cd' {lo hi:Option Expr}{p2:Pos}{gl gh:M (Option Int)} (ha:ED X B a ga) (hl:partD lo X B gl) (hh:partD hi X B gh):ED X B (.Subscript a (.Slice lo hi none p2) pos) (sl3 slWF ga gl gh):=PE.imp (ja' oQ' ha hl hh) λσ H Q q=>by
 obtain ⟨G,I,Γ,d,Γ',r,e1,k⟩:=q
 obtain ⟨c,Γ1,e2,e3⟩:=ae' e1
 obtain ⟨l,Γ2,e4,e5⟩:=ae' e3
 obtain ⟨h,Γ3,e6,e7⟩:=ae' e5
 obtain ⟨e8,rfl⟩:=ao' e7
 refine ⟨G,I,Γ,c,Γ1,r,e2,λv H1 I1 r1 g1 hv=>⟨G,I1,Γ1,l,Γ2,r1,e4,λH2 I2 r2 g2=>⟨G,I2,Γ2,h,_,r2,e6,λH3 I3 r3 g3=>?_⟩⟩⟩
 have gg:=g1.trans (g2.trans g3)
 have hv3:=hv.mono (g2.trans g3).up
 unfold slWF at e8
 split at e8
 ·rename_i ds
  obtain ⟨hw,rfl⟩:=aw' e8
  have hv4:=hv3
  obtain ⟨p,xs,rfl,h3,h4⟩:=as' hv3
  exact ⟨p,xs,rfl,Same.sqT r3.iH h3,by rw [← h4.length];exact hw,(k.after gg).now r3 hv4⟩
 ·cases e8
end
section
variable {prog:Program}{w:World}{A:Around}{E:Value->Shared->Prop}{s:Shared}
end
section
variable {X:Cx}{B:BB}{a b:Expr}{pos:Pos}{ga gb:M D}
end
def isStar:Expr->Bool
 | .Starred ..=>true
 | _=>false
theorem rD' {e:Expr}{rest:List Expr}{env:Env} (h:isStar e=false):starEach (e::rest) env=(false,eval e env)::starEach rest env:=by
 cases e<;>first | rfl | (simp [isStar] at h)
theorem ab' {X:Cx}{B:BB}{e:Expr}{es:List Expr}{g:M D}{t:M (List D)} (ha:ED X B e g) (hr:AD X B es t) (h:isStar e=false):AD X B (e::es) (consA g t):=pJ' ha hr (rD' h)
end DL
namespace DL
open PySem PySem.Spec PyProof.Rows L2
section
variable {X:Cx}{B:BB}
theorem ec' {e1 e2 e3 e4:Expr}{es:List Expr}{g1 g2 g3 g4:M D}{t:M (List D)} (h1:ED X B e1 g1) (h2:ED X B e2 g2) (h3:ED X B e3 g3) (h4:ED X B e4 g4) (hr:AD X B es t) (s1:isStar e1=false) (s2:isStar e2=false) (s3:isStar e3=false) (s4:isStar e4=false):AD X B (e1::e2::e3::e4::es) (consA g1 (consA g2 (consA g3 (consA g4 t)))) :=
 ab' h1 (ab' h2 (ab' h3 (ab' h4 hr s4) s3) s2) s1
end
inductive KCs:List Expr->M (List D)->Prop
 | nil:KCs [] nilA
 | int {i:Int} {a b es t}:KCs es t->KCs (.Constant (.int i) a b::es) (consA (ret (.int i)) t)
 | bl {i:Bool} {a b es t}:KCs es t->KCs (.Constant (.bool i) a b::es) (consA (ret (.bl i)) t)
 | non {a b es t}:KCs es t->KCs (.Constant .none a b::es) (consA (ret .non) t)
 | str {i:Str} {a b es t}:KCs es t->KCs (.Constant (.str i) a b::es) (consA (ret (.str i)) t)
 | tup {fs u x p es t}:KCs fs u->KCs es t->KCs (.Tuple fs x p::es) (consA (tupA u) t)
end DL
namespace DL
open PySem PySem.W PySem.Spec PyProof.Rows L2 PySem.SetTable
section
variable {prog:Program}{w:World}{A:Around}{E:Value->Shared->Prop}{s:Shared}
variable {X:Cx}{pins:List (Addr×Obj)}{σ:L2.St}{H:Hp}
theorem istup {h:Heap}{a:Addr}{its:Array Value} (t:IsTup h a its):h.IsTuple a its:=t
theorem qh' (I0:Inv X pins σ H s) (hh:A.handled=none){l:Addr}{items:List Value} (hl:s.heap.IsTuple l items.toArray){J:Hp} (hJ:∀ d x,Is X.K J d x->Is X.K H d x){ds:List D}{zs:List V} (ha:IsA X.K J ds zs) (hv:Vals zs items) (ok:SetOk ds) (hu:A.units+50 < cLine){Q:Value->Shared->Prop}
  (q:∀ S s' es,Ext s s'->s.heap.objs.size<=S->SetAt s'.heap S (!byTx w) es->EsOk X J es (dd ds)->Q (.ref S) s'):wpAny (model prog w) A (call (.type "set") [.ref l]) Q E s:=by
 obtain ⟨c,tl,hmro⟩:=F.called_set.mro;have hmade:=F.called_set.made
 have hsub:=F.called_set.sub
 refine wpAny_call (codeAny_of_tree (wpAny_pure ⟨Code.quiet_builtin _ (by decide +kernel),codeAny_builtin F.entry_type_call ?_⟩))
 rw [Around.under_plain (weight_type_call_type "set" [.ref l] []) rfl];have h1:=F.called_set.notType
 have h2:=F.called_set.canCreate;have hct:=PySem.F.typeCall_set_1 (.ref l)
 repeat any_goals first | assumption | wp_step
 refine codeAny_mono (lo' (w:=w) (.ref l) (E:=E) (Q:=λobj s₁=>obj=.ref s.heap.objs.size/\s₁={ s with heap:=s.heap.push (fresh0 w) }) ⟨rfl,rfl⟩) λr s₁ hr=>?_
 rcases r with e | fl
 ·exact hr
 cases fl with
 | ret obj =>
  obtain ⟨rfl,rfl⟩:=hr
  have hS:(s.heap.push (fresh0 w)).get? s.heap.objs.size=some (fresh0 w):=Heap.get?_push_size _ rfl
  have hT:Shared.TypeIs { s with heap:=s.heap.push (fresh0 w) } (.ref s.heap.objs.size) "set":=⟨_,hS,rfl⟩
  have hli:=F.called_set.init.lookup;have hbi:=F.called_set.init.bind (.ref s.heap.objs.size)
  repeat any_goals first | assumption | wp_step
  refine codeAny_mono (codeAny_call_builtin (R:=wants (λr s₂=>r=.none/\∃ es,Ext s s₂/\SetAt s₂.heap s.heap.objs.size (!byTx w) es/\EsOk X J es (dd ds)) E) F.called_set.init.plain F.entry_set_init (check_set_init_1 hT ?_)) λr₂ s₂ hr₂=>?_
  ·obtain ⟨ol,hol,hcl,nl,hdl⟩:=hl;have ltl:l < s.heap.objs.size:=Heap.lt_size hol
   obtain ⟨ocls,odict,odata,oslots⟩:=ol;simp only at hcl hdl
   subst hcl;subst hdl
   have hol':(s.heap.push (fresh0 w)).get? l=some { cls:=.type "tuple", dict:=odict,data:=.seq items.toArray nl,slots:=oslots }:=Heap.get?_push_of_some _ hol
   have hsls:=PySem.F.sub_tuple_set
   have hslf:=PySem.F.sub_tuple_frozenset
   have hne:(Value.type "tuple" == Value.type "dict")=false:=(by decide)
   have hl1:(s.heap.push (fresh0 w)).IsTuple l items.toArray:=⟨_,hol',rfl,nl,rfl⟩
   obtain ⟨h1,e1⟩:∃ h1,h1=s.heap.push (fresh0 w):=⟨_,rfl⟩
   have sz1:h1.objs.size=s.heap.objs.size+1:=by rw [e1,Heap.size_push]
   have old1:∀ b o,s.heap.get? b=some o->h1.get? b=some o:=λb o x=>by rw [e1];exact Heap.get?_push_of_some _ x
   rw [← e1] at hS hol' hl1
   show wpAny _ _ _ _ _ { s with heap:=s.heap.push (fresh0 w) }
   rw [← e1]
   have hSx:h1.get? s.heap.objs.size=some { cls:=.type "set", dict:=none,data:=.set #[] 0 (.fresh 0 0 (!byTx w)) }:=hS
   unfold Builtin.«set.__init__» noKeywords Builtin.Frozenset.updateFrom;generalize hPI:pyIter=PI
   wp_walk
   subst hPI
   refine wpAny_pyIter_tuple (s:={ s with heap:=h1 }) hl1 (wpAny_bind (wpAny_runValue ?_))
   have neI:l≠h1.objs.size:=by rw [sz1];exact Nat.ne_of_lt (Nat.lt_succ_of_lt ltl)
   refine jD' (s0:=s) (led:=!byTx w) I0 (Nat.le_refl _) (by rw [sz1];exact Nat.le_succ _) (Walks.tuple (by exact hh) h1.objs.size l neI items.toArray) ?_ hJ ha ok (by rw [List.size_toArray,← hv.length,← ha.length]) (λi v hi=>?_) (by show A.units+1+1+20 < _;omega) _ 0 _ rfl (Nat.zero_le _) ?_ ?_ ?_ λs' es ex sa eo=>?_
   ·rw [sz1]
    intro hm
    rcases List.mem_cons.mp hm with z | z
    ·exact absurd z (Nat.ne_of_lt (Nat.lt_succ_self _))
    ·exact absurd (List.mem_singleton.mp z) (Nat.ne_of_gt ltl)
   ·have hi':items[i]?=some v:=by simpa using hi
    have li:i < zs.length:=by
     rw [hv.length]
     rcases Nat.lt_or_ge i items.length with z | z
     ·exact z
     ·rw [List.getElem?_eq_none z] at hi';cases hi'
    obtain ⟨u,e3,e4⟩:=hv.get (List.getElem?_eq_getElem li)
    rw [hi'] at e3
    cases e3
    exact ⟨_,List.getElem?_eq_getElem li,e4⟩
   ·exact ⟨_,s.toks,rfl,λb o x=>Heap.get?_push_of_some _ (old1 b o x)⟩
   ·exact ⟨⟨_,Heap.get?_push_size _ rfl,rfl,rfl⟩,hl1.push _⟩
   ·refine ⟨#[],⟨_,0,_,Heap.get?_push_of_some _ hSx,rfl,rfl,jG' w,rfl⟩,rfl,λe he=>?_,λd hd=>?_⟩
    ·simp at he
    ·cases hd
   ·exact wpAny_pure (wpAny_pure ⟨rfl,es,ex,sa,eo⟩)
  ·rcases r₂ with e | fl₂
   ·exact hr₂
   ·cases fl₂ with
    | ret r =>
     obtain ⟨rfl,es,e1,e2,e3⟩:=hr₂
     repeat any_goals first | assumption | wp_step
     exact q _ _ es e1 (Nat.le_refl _) e2 e3
    | _=>exact hr₂.elim
 | _=>exact hr.elim
end
section
variable {X:Cx}{pins:List (Addr×Obj)}{σ:L2.St}{H:Hp}{s:Shared}{A:Around}
theorem kw' (hu:X.A.units+100 < cLine) (hh:X.A.handled=none) (I:Inv X pins σ H s){p:Addr}{J:Hp} (hJ:∀ d x,Is X.K J d x->Is X.K H d x){zs:List V}{ds:List D} (hq:SqT X.K H p zs) (ha:IsA X.K J ds zs) (ok:SetOk ds)
  (kd:ds.all fstI=true\/ds.all fstT=true){Q:VK} (k:∀ l zs',IsA X.K J (sortD (dd ds)) zs'->H l=none->Q (.ref l) (upd H l (.lst zs'))) :
  wpAny (model X.prog X.w) X.A (call (.type "set") [.ref p]) (λv s'=>wpAny (model X.prog X.w) X.A (call (.builtin "sorted") [v]) (EP X pins σ Q) X.xe s') X.xe s:=by
 obtain ⟨its,rv,t,hz⟩:=I.tuple hq
 refine qh' I hh (istup t) hJ ha rv ok (by omega) λS s' es ex le sa eo=>?_
 have I':=ex.inv I
 obtain ⟨cm,ky,ti,dp,few⟩:=ok
 obtain ⟨o,ep,tb,ho,hc,hd,T,led⟩:=sa
 obtain ⟨ds',zs',a1,a2,a3,a4,a5⟩:=fv' (X:=X) (J:=J) (M:=dd ds) (walkOf X.w S ep es).toList λe he=>eo.2.1 e (by
  have:=(dD' X.w S ep es).mem_iff.mp he
  simpa using this)
 have tt:∀ d∈dd ds,isT d=true:=λd hd=>List.all_eq_true.mp ti _ (eb' hd)
 have pm:(dd ds).Perm ds':=by
  refine gg' _ _ (eW' ds) (λd hd=>?_) (by rw [a3,Array.length_toList,dE',eo.1];exact Nat.le_refl _)
  obtain ⟨e,m,q⟩:=eo.2.2 d hd
  obtain ⟨d',m',q'⟩:=a5 e ((dD' X.w S ep es).mem_iff.mpr (by simpa using m))
  have:=Stn.det I' (tt d hd) (tt d' (a4 d' m')) (q.up hJ) (q'.up hJ)
  rw [this]
  exact m'
 have sub:∀ d∈ds',d∈ds:=λd hd=>eb' (a4 d hd)
 have cm':cmAll ds'=true:=List.all_eq_true.mpr λa ha'=>List.all_eq_true.mpr λb hb'=>List.all_eq_true.mp (List.all_eq_true.mp cm a (sub a ha')) b (sub b hb')
 have a1':IsA X.K H ds' zs':=IsA.up hJ a1
 refine dx' hu I' a1' a2 ⟨by have:=pm.length_eq;omega,cm',Nat.le_trans (hR' λx hx=>bD' (sub x hx)) (by omega),?_⟩ (λQ' q=>ln' (A:=X.A.in1) (by exact hh) T led ⟨o,ho,hc,hd⟩ q) λl q hp e hl=>k l _ ?_ hl
 ·rcases kd with z | z
  ·exact .inr (.inl (List.all_eq_true.mpr λx hx=>List.all_eq_true.mp z x (sub x hx)))
  ·exact .inr (.inr (List.all_eq_true.mpr λx hx=>List.all_eq_true.mp z x (sub x hx)))
 ·rw [← jH' pm.symm cm',← e]
  exact a1.perm hp
end
end DL
namespace DL
open PySem PySem.W PySem.Spec PyProof.Rows L2 PySem.SetTable
section
variable {X:Cx}{B:BB}{e:Expr}{pos pos':Pos}{kr:Nat}
def rSST (X:Cx) (xs:List V) (H:Hp) (Q:VK):Prop:=∃ (p:Addr) (zs:List V) (ds:List D) (J:Hp),xs=[.ref p]/\(SqL X.K H p zs\/SqT X.K H p zs)/\IsA X.K J ds zs/\(∀ d x,Is X.K J d x->Is X.K H d x)/\SetOk ds/\(ds.all fstI=true\/ds.all fstT=true) ∧
 ∀ l zs',IsA X.K J (sortD (dd ds)) zs'->H l=none->Q (.ref l) (upd H l (.lst zs'))
theorem kx' {p p':Pos}{t:TA} (hr:Room kr X.A) (hg:Gl X "sorted") (hm:X.mg "sorted"=none) (hg':Gl X "set") (hm':X.mg "set"=none) (ha:PA X [e] t)
  (he:starEach [e] X.env=(false,eval e X.env)::starEach [] X.env:=by rfl) (he':starEach [.Call (.Name "set" p') [e] [] pos'] X.env=(false,eval (.Call (.Name "set" p') [e] [] pos') X.env)::starEach [] X.env:=by rfl)
  (hpl:∀ pos,(backTo pos (starEach [] X.env)).any (·.1)=false:=by intro _;rfl) :
  PE X (.Call (.Name "sorted" p) [.Call (.Name "set" p') [e] [] pos'] [] pos) (tCB (rSST X) t):=by
 intro pins s σ H Q I h
 refine wpAny_Call_Name_kw (cY' I hg hm boot_sorted (PyProof.Rows.callWith_builtin1 ?_ he' (hpl _)) (by decide) (by decide))
 rw [he']
 refine Calls.spliced_cons (wpAny_Call_Name_kw (cY' I hg' hm' boot_set (PyProof.Rows.callWith_type1 ?_ he (hpl _)) (by decide) (by decide)))
 refine thn (ha pos' pins s σ H _ I h) λus s1 ⟨vs,H1,I1,r1,p,zs,ds,J,e1,q1,q2,q3,q4,q5,q6⟩=>?_
 subst e1
 obtain ⟨u,rfl,ru⟩:=vals1 r1
 cases ru
 rcases q1 with q1 | q1
 ·exact thn (lZ' (hu100 hr) hr.hd I1 q3 q1 q2 q4 q5 q6) λv s2 q=>Calls.spliced_nil q
 ·exact thn (kw' (hu100 hr) hr.hd I1 q3 q1 q2 q4 q5 q6) λv s2 q=>Calls.spliced_nil q
def SetCan (xs:List D):Prop:=(cmAll xs=true/\xs.all kyB=true/\xs.all isT=true/\depA xs<=8/\(dd xs).length<=28)/\(xs.all fstI=true\/xs.all fstT=true)
instance decSetCan (xs:List D):Decidable (SetCan xs):=by unfold SetCan;infer_instance
def setTF (ds:List D):Option (List D):=match ds with
 | [.lst xs]=>if SetCan xs then some (sortD (dd xs)) else none
 | [.tup xs]=>if SetCan xs then some (sortD (dd xs)) else none
 | _=>none
theorem f2' {p p':Pos}{t:M (List D)} (hr:Room kr X.A) (hg:Gl X "sorted") (hm:X.mg "sorted"=none) (hg':Gl X "set") (hm':X.mg "set"=none) (ha:AD X B [e] t)
  (he:starEach [e] X.env=(false,eval e X.env)::starEach [] X.env:=by rfl) (he':starEach [.Call (.Name "set" p') [e] [] pos'] X.env=(false,eval (.Call (.Name "set" p') [e] [] pos') X.env)::starEach [] X.env:=by rfl)
  (hpl:∀ pos,(backTo pos (starEach [] X.env)).any (·.1)=false:=by intro _;rfl) :
  EO X B (.Call (.Name "sorted" p) [.Call (.Name "set" p') [e] [] pos'] [] pos) (fn1 setTF t):=PE.imp (kx' hr hg hm hg' hm' ha he he' hpl) (lN' λds d e B G I H σ Γ xs Q r h k=>by
 unfold setTF at e
 split at e
 ·obtain ⟨ok,rfl⟩:=aw' e
  obtain ⟨x,rfl,hx⟩:=h.one
  obtain ⟨q,zs,rfl,h3,h4⟩:=aB' hx
  exact ⟨q,zs,_,I,rfl,.inl (Same.rdK r.iH h3).sq,h4,λd x hx=>hx.mono r.iH,ok.1,ok.2,λl zs' hz hl=>k.new r hl hz⟩
 ·obtain ⟨ok,rfl⟩:=aw' e
  obtain ⟨x,rfl,hx⟩:=h.one
  obtain ⟨q,zs,rfl,h3,h4⟩:=as' hx
  exact ⟨q,zs,_,I,rfl,.inr (Same.sqT r.iH h3),h4,λd x hx=>hx.mono r.iH,ok.1,ok.2,λl zs' hz hl=>k.new r hl hz⟩
 ·cases e)
theorem jP':∀ {ns:List Int}{its:List Value},Vals (ns.map V.int) its->IntsAre its ns
 | [],its,h=>by cases h;exact .nil
 | n::ns,its,h=>by
  cases h with
  | cons h1 h2=>obtain ⟨t,rfl⟩:=h1;exact .cons _ _ (jP' h2)
def intsD:List D->Option (List Int)
 | []=>some []
 | .int i::ds=>match intsD ds with
  | some ns=>some (i::ns)
  | none=>none
 | _=>none
theorem iD':∀ {ds:List D}{ns:List Int},intsD ds=some ns->ds=ns.map D.int
 | [],ns,h=>by cases h;rfl
 | d::ds,ns,h=>by
  cases d<;>try cases h
  rename_i i
  rw [intsD] at h
  cases e:intsD ds with
  | none=>rw [e] at h;cases h
  | some ms=>rw [e] at h;cases h;rw [List.map_cons,← iD' e]
theorem iE':∀ (ns:List Int),intsD (ns.map D.int)=some ns
 | []=>rfl
 | n::ns=>by rw [List.map_cons,intsD,iE' ns]
theorem gi' {K:PySem.W.Frag}{I:Hp}:∀ {ns:List Int}{zs:List V},IsA K I (ns.map D.int) zs->zs=ns.map V.int
 | [],zs,h=>h.nil_inv
 | n::ns,zs,h=>by
  obtain ⟨x,r,rfl,h1,h2⟩:=IsA.cons_inv h
  rw [gi' h2,am' h1];rfl
variable {a b c c':Expr}{ga gb gc gd:M D}
def chn3 (F F' F'':D->D->Option D) (ga gb gc gd:M D):M D:=bnd ga λx=>bnd gb λy=>bnd (lft (F x y)) λz=>bnd (lft (asB z)) λk=>if k then (bnd gc λw=>bnd (lft (F' y w)) λz'=>bnd (lft (asB z')) λk'=>if k' then bnd gd λw'=>lft (F'' w w') else ret (.bl false)) else ret (.bl false)
def tChain3 (r r' r'':R2) (ta tb tc td:TE):TE:=λσ H Q=>ta σ H λx H1=>tb σ H1 λy H2=>r x y H2 λz H3=>∃ k,z=.bl k ∧
 (if k then (tc σ H3 λw H4=>r' y w H4 λz' H5=>∃ k',z'=.bl k'/\(if k' then (td σ H5 λw' H6=>r'' w w' H6 Q) else Q (.bl false) H5)) else Q (.bl false) H3)
theorem nH' {op op' op'':CmpOp}{r r' r'':R2}{ta tb tc td:TE} (ho:OpR X (compareOp op) r) (ho':OpR X (compareOp op') r') (ho'':OpR X (compareOp op'') r'') (ha:PE X a ta) (hb:PE X b tb) (hc:PE X c tc) (hd:PE X c' td)
  (hm:lastMarks [op,op',op''] [b,c,c']=false:=by with_unfolding_all rfl):PE X (.Compare a [op,op',op''] [b,c,c'] pos) (tChain3 r r' r'' ta tb tc td):=by
 intro pins s σ H Q I h
 refine Compare_chain (thn (ha pins s σ H _ I h) λv s1 ⟨x,H1,I1,r1,q1⟩=>chain_link (thn (hb pins s1 σ H1 _ I1 q1) λu s2 ⟨y,H2,I2,r2,q2⟩ =>
  thn (ho pins s2 σ H2 x y v u _ I2 r1 r2 q2) λd s3 ⟨z,H3,I3,r3,k,e,q3⟩=>?_)) hm
 cases e
 cases r3
 refine wpAny_truthy_bool ?_
 cases k with
 | false=>exact ite_ff ⟨.bl false,H3,I3,rfl,q3⟩
 | true =>
  refine ite_tt (chain_link (thn (hc pins s3 σ H3 _ I3 q3) λu' s4 ⟨y',H4,I4,r4,q4⟩=>thn (ho' pins s4 σ H4 y y' u u' _ I4 r2 r4 q4) λd' s5 ⟨z',H5,I5,r5,k',e',q5⟩=>?_))
  cases e'
  cases r5
  refine wpAny_truthy_bool ?_
  cases k' with
  | false=>exact ite_ff ⟨.bl false,H5,I5,rfl,q5⟩
  | true=>exact ite_tt (chain_last (thn (hd pins s5 σ H5 _ I5 q5) λw' s6 ⟨z',H6,I6,r6,q6⟩=>ho'' pins s6 σ H6 y' z' u' w' Q I6 r4 r6 q6))
theorem rE' {r r' r'':R2}{F F' F'':D->D->Option D}{K:PySem.W.Frag} (h:OpD K r F) (h':OpD K r' F') (h'':OpD K r'' F''):∀ σ H Q,tD K B (chn3 F F' F'' ga gb gc gd) σ H Q->tChain3 r r' r'' (tD K B ga) (tD K B gb) (tD K B gc) (tD K B gd) σ H Q:=λσ H Q q=>by
 obtain ⟨G,I,Γ,d,Γ',r,e1,k⟩:=q
 obtain ⟨d1,Γ1,e2,e3⟩:=ae' e1
 obtain ⟨d2,Γ2,e4,e5⟩:=ae' e3
 obtain ⟨d3,Γ3,e6,e7⟩:=ae' e5
 obtain ⟨e8,rfl⟩:=ao' e6
 obtain ⟨k1,Γ4,e9,f1⟩:=ae' e7
 obtain ⟨f2,rfl⟩:=ao' e9
 have:=d2' f2
 subst this
 refine ⟨G,I,Γ,d1,Γ1,r,e2,λv H1 I1 r1 g1 h1=>⟨G,I1,Γ1,d2,Γ4,r1,e4,λw H2 I2 r2 g2 h2=>h _ _ _ e8 B G I2 H2 σ Γ4 v w _ r2 (h1.mono g2.up) h2 λu H3 I3 r3 g3 h3=>⟨k1,a3' h3,?_⟩⟩⟩
 cases k1 with
 | false=>cases f1;exact iteF (k _ _ _ r3 (g1.trans (g2.trans g3)) (Is.bl false))
 | true =>
  obtain ⟨d4,Γ5,f3,f4⟩:=ae' f1
  obtain ⟨d5,Γ6,f5,f6⟩:=ae' f4
  obtain ⟨f7,rfl⟩:=ao' f5
  obtain ⟨k2,Γ7,f8,f9⟩:=ae' f6
  obtain ⟨i1,rfl⟩:=ao' f8
  have:=d2' i1
  subst this
  refine iteT ⟨G,I3,Γ4,d4,_,r3,f3,λz H4 I4 r4 g4 h4=>h' _ _ _ f7 B G I4 H4 σ _ w z _ r4 (h2.mono (g3.trans g4).up) h4 λu' H5 I5 r5 g5 h5=>⟨k2,a3' h5,?_⟩⟩
  have gg:=g1.trans (g2.trans (g3.trans (g4.trans g5)))
  cases k2 with
  | false=>cases f9;exact iteF (k _ _ _ r5 gg (Is.bl false))
  | true =>
   obtain ⟨d6,Γ8,i2,i3⟩:=ae' f9
   obtain ⟨i4,rfl⟩:=ao' i3
   exact iteT ⟨G,I5,_,d6,_,r5,i2,λz' H6 I6 r6 g6 h6=>h'' _ _ _ i4 B G I6 H6 σ _ z z' Q r6 (h4.mono (g5.trans g6).up) h6 (k.after (gg.trans g6))⟩
theorem oR' (ha:ED X B a ga) (hb:ED X B b gb) (hc:ED X B c gc) (hd:ED X B c' gd) (hm:lastMarks [.LtE,.Lt,.Lt] [b,c,c']=false:=by with_unfolding_all rfl):ED X B (.Compare a [.LtE,.Lt,.Lt] [b,c,c'] pos) (chn3 leI ltI ltI ga gb gc gd):=PE.imp (nH' gA' gz' gz' ha hb hc hd hm) (rE' cI' cI' cI')
end
section
variable {prog:Program}{w:World}{A:Around}{E:Value->Shared->Prop}{s:Shared}
theorem qi' {S:Addr}{its:List Value} (hS:s.heap.IsTuple S its.toArray) (few:its.length<=64){Q:List Value->Shared->Prop}
  (q:∀ h',(∀ b o,s.heap.get? b=some o->h'.get? b=some o)->s.heap.objs.size<=h'.objs.size->Q its { s with heap:=h' }):wpAny (model prog w) A (collect (.ref S)) Q E s:=by
 have line:64<=sizeLine:=by rw [sizeLine_eq];decide
 obtain ⟨o,ho,hc,n,hd⟩:=hS
 unfold collect
 refine wpAny_bind (wpAny_runValue (codeAny_builtin F.entry_proto_collect ?_));rw [Around.under_plainId F.plain_proto_collect _]
 refine wpAny_bind (m:=newList []) (wpAny_newObj_type (wpAny_pure ⟨plainId_quiet F.plain_list_iadd _,codeAny_builtin F.entry_list_iadd ?_⟩))
 rw [Around.under_plainId F.plain_list_iadd _];obtain ⟨h1,e1⟩:∃ h1,h1=s.heap.push { cls:=.type "list", data:=.seq ([]:List Value).toArray }:=⟨_,rfl⟩
 have sz1:h1.objs.size=s.heap.objs.size+1:=by rw [e1,Heap.size_push]
 have old1:∀ b o,s.heap.get? b=some o->h1.get? b=some o:=λb o x=>by rw [e1];exact Heap.get?_push_of_some _ x
 have own1:h1.get? s.heap.objs.size=some { cls:=.type "list", data:=.seq ([]:List Value).toArray }:=by rw [e1];exact Heap.get?_push_size _ rfl
 rw [← e1]
 show wpAny _ A.in1 (Builtin.List.listExtendWith (.ref s.heap.objs.size) (.ref S) (.ref s.heap.objs.size)) _ _ { s with heap:=h1 }
 unfold Builtin.List.listExtendWith;refine wpAny_bind (wpAny_typeOf (s:={ s with heap:=h1 }) (T := "tuple") ⟨o,old1 _ _ ho,hc⟩ ?_)
 rw [if_pos (by simp)]
 refine wpAny_bind (listItems_at (s:={ s with heap:=h1 }) (old1 _ _ ho) hd (wpAny_bind (listItems_at (s:={ s with heap:=h1 }) own1 rfl ?_)))
 rw [if_neg (by simp)]
 refine wpAny_bind (listUpdate_at (s:={ s with heap:=h1 }) own1 rfl ?_ (Nat.zero_le _) (by simp;omega))
 have own2:=Heap.get?_update_self (Obj.mapSeq (·++its.toArray)) own1 rfl
 refine wpAny_pure ?_
 show wpAny (model prog w) A (load s.heap.objs.size >>= _) _ _ _
 refine wpAny_bind (wpAny_load own2 (wpAny_pure ?_))
 have e:(([]:List Value).toArray++its.toArray).toList=its:=by simp
 show Q (([]:List Value).toArray++its.toArray).toList _
 rw [e]
 refine q _ (λb o' hb=>?_) ?_
 ·exact (Heap.get?_update_other _ _ (Nat.ne_of_gt (Heap.lt_size hb))).trans (old1 _ _ hb)
 ·rw [Heap.size_update,sz1]
  exact Nat.le_succ _
end
section
variable {X:Cx}
theorem jQ' (hu:X.A.units+100 < cLine):CallR X (.builtin "sorted") (λxs H Q=>∃ (p:Addr) (zs:List V) (ds:List D),xs=[.ref p]/\(SqL X.K H p zs\/SqT X.K H p zs)/\IsA X.K H ds zs/\SortOk ds/\∀ l q,Pm ds.length q->permD q ds=sortD ds->H l=none->Q (.ref l) (upd H l (.lst (permV q zs)))):=by
 intro pins s σ H xs us Q I r h
 obtain ⟨p,zs,ds,rfl,hq,ha,ok,k⟩:=h
 rcases hq with hq | hq
 ·exact ft' hu pins s σ H [.ref p] us Q I r ⟨p,zs,ds,rfl,hq,ha,ok,k⟩
 obtain ⟨u,rfl,ru⟩:=vals1 r
 cases ru
 obtain ⟨its,rv,t,hz⟩:=I.tuple hq
 have l1:=ha.length
 have l2:=rv.length
 have line:64<=sizeLine:=by rw [sizeLine_eq];decide
 exact dx' hu I ha rv ok (λQ' q=>qi' t (by have:=ok.1;omega) λh' keep sz=>q h' s.toks keep sz) k
end
section
variable {X:Cx}{B:BB}{e:Expr}{pos:Pos}{kr:Nat}
def SortCan (xs:List D):Prop:=xs.length < 64/\cmAll xs=true/\depA xs<=50/\(xs.all isInt=true\/xs.all fstI=true\/xs.all fstT=true)
instance decSortCan (xs:List D):Decidable (SortCan xs):=by unfold SortCan;infer_instance
def sortTF (ds:List D):Option (List D):=match ds with
 | [.lst xs]=>if SortCan xs then some (sortD xs) else none
 | [.tup xs]=>if SortCan xs then some (sortD xs) else none
 | _=>none
theorem gV' {p:Pos}{t:M (List D)} (hr:Room kr X.A) (hg:Gl X "sorted") (hm:X.mg "sorted"=none) (ha:AD X B [e] t) (he:starEach [e] X.env=(false,eval e X.env)::starEach [] X.env:=by rfl) (hpl:(backTo pos (starEach [] X.env)).any (·.1)=false:=by rfl) :
  EO X B (.Call (.Name "sorted" p) [e] [] pos) (fn1 sortTF t):=mV' (jQ' (hu100 hr)) (λds d e B G I H σ Γ xs Q r h k=>by
 unfold sortTF at e
 split at e
 ·obtain ⟨ok,rfl⟩:=aw' e
  obtain ⟨x,rfl,hx⟩:=h.one
  obtain ⟨q,zs,rfl,h3,h4⟩:=aB' hx
  refine ⟨q,zs,_,rfl,.inl (Same.rdK r.iH h3).sq,h4.mono r.iH,ok,λl q' hp es hl=>k.new r hl ?_⟩
  rw [← es]
  exact h4.perm hp
 ·obtain ⟨ok,rfl⟩:=aw' e
  obtain ⟨x,rfl,hx⟩:=h.one
  obtain ⟨q,zs,rfl,h3,h4⟩:=as' hx
  refine ⟨q,zs,_,rfl,.inr (Same.sqT r.iH h3),h4.mono r.iH,ok,λl q' hp es hl=>k.new r hl ?_⟩
  rw [← es]
  exact h4.perm hp
 ·cases e) hg hm boot_sorted ha (by decide) (by decide) he hpl
end
end DL
namespace DL
open PySem PySem.W PySem.Spec PyProof.Rows L2
end DL
namespace DL
open PySem PySem.W PySem.Spec PyProof.Rows L2
section
variable {X:Cx}{B:BB}{a b e:Expr}{ga gb:M D}{pos:Pos}{kr:Nat}
end
end DL
namespace DL
open PySem PySem.W PySem.Spec PyProof.Rows L2
section
variable {X:Cx}{B:BB}{e:Expr}{t:M (List D)}{pos:Pos}
end
end DL
namespace DL
open PySem PySem.W PySem.Spec PyProof.Rows L2
section
variable {X:Cx}{B:BB}{e:Expr}{t:M (List D)}
theorem oS':MtR X "list.count" (λx xs H Q=>∃ (p:Addr) (ns:List Int) (k:Int),x=.ref p/\xs=[.int k]/\SqL X.K H p (ns.map V.int)/\ns.length<=1000/\Q (.int (ns.count k:Nat)) H):=by
 intro pins s σ H x xs v us Q I rx rs h
 obtain ⟨p,ns,k,rfl,rfl,hq,hl,q⟩:=h
 cases rx
 obtain ⟨u,rfl,ru⟩:=vals1 rs
 obtain ⟨t,rfl⟩:=ru
 obtain ⟨its,rv,pl,hz⟩:=I.list hq
 exact count_list_ints pl.isList (jP' rv) ⟨.int _,H,I.tok _,⟨_,rfl⟩,q⟩
def cntF (a:D) (ds:List D):Option D:=match a,ds with
 | .lst xs,[.int k]=>match intsD xs with
  | some ns=>if ns.length<=1000 then some (.int (ns.count k:Nat)) else none
  | none=>none
 | _,_=>none
def cntV (i:Nat) (t:M (List D)):M D:=bnd (nm i) λa=>bnd t λds=>lft (cntF a ds)
theorem nI' {i:Nat}{z:Str}{p1 apos cpos:Pos} (hv:ED X B (.Name z p1) (nm i)) (ha:AD X B [e] t)
  (hbase:attributeBase (.Name z p1) "count" X.env (eval (.Name z p1) X.env)=eval (.Name z p1) X.env:=by rfl)
  (hfew:((backTo cpos (starEach [e] X.env)).all (λx=>!x.1)&&(backToKw cpos (keywordEach [] X.env)).all (λx=>x.1.isSome)&&decide ([e].length+([]:List Keyword).length+(if ([]:List Keyword).isEmpty then 0 else 1) < 30))=true:=by rfl)
  (hline:(apos.endLine == cpos.line)=true:=by rfl) (hs:starEach [e] X.env=(false,eval e X.env)::starEach [] X.env:=by rfl) (hplain:(backTo cpos (starEach [] X.env)).any (·.1)=false:=by rfl) :
  ED X B (.Call (.Attribute (.Name z p1) "count" apos) [e] [] cpos) (cntV i t) :=
 PE.imp (lK' PySem.F.plainAttrs_list PySem.F.slot_list_count PySem.F.type_list_count oS' hv ha hbase hfew hline hs hplain) λσ H Q q=>by
  obtain ⟨G,I,Γ,d,Γ',r,e1,k⟩:=q
  obtain ⟨d1,Γ1,e2,e3⟩:=ae' e1
  obtain ⟨ds,Γ2,e4,e5⟩:=ae' e3
  obtain ⟨e6,rfl⟩:=ao' e5
  unfold cntF at e6
  split at e6
  ·rename_i xs n
   split at e6
   ·rename_i ns en
    obtain ⟨ok,rfl⟩:=aw' e6
    refine ⟨G,I,Γ,_,Γ1,r,e2,λv H1 I1 r1 g1 h1=>?_⟩
    rw [iD' en] at h1
    have h0:=h1
    obtain ⟨q,zs,rfl,h3,h4⟩:=aB' h1
    have:=gi' h4
    subst this
    have sq:=(Same.rdK r1.iH h3).sq
    refine ⟨.inl ⟨rfl,_,sq⟩,G,I1,Γ1,_,_,r1,e4,λvs H2 I2 r2 g2 h2=>?_⟩
    obtain ⟨w,rfl,hw⟩:=h2.one
    rw [am' hw]
    obtain ⟨q',zs',e',i3,i4⟩:=aB' (h0.mono g2.up)
    cases e'
    have:=gi' i4
    subst this
    exact ⟨q,ns,n,rfl,rfl,(Same.rdK r2.iH i3).sq,ok,k _ _ _ r2 (g1.trans g2) (Is.int _)⟩
   ·cases e6
  ·cases e6
end
end DL
namespace DL
open PySem PySem.W PySem.Spec PyProof.Rows L2
section
variable {X:Cx}{B:BB}{pos p p1:Pos}{kr:Nat}
def sortN (i:Nat):M (List D):=bnd (lookK i) λkvs=>lft (sortKF kvs)
theorem jR' {K:PySem.W.Frag}{I:Hp}:∀ (kvs:List (Int×D)),IsA K I (keysD kvs) ((kvs.map (·.1)).map V.int)
 | []=>IsA.nil
 | _::r=>IsA.cons (by rw [Is]) (jR' r)
theorem oT' {i:Nat}{z:Str} (hr:Room kr X.A) (hc:X.calm=true) (hg:Gl X "sorted") (hm:X.mg "sorted"=none) (hv:PE X (.Name z p1) (tVar i)) (he:starEach [.Name z p1] X.env=(false,eval (.Name z p1) X.env)::starEach [] X.env:=by rfl) (hpl:(backTo pos (starEach [] X.env)).any (·.1)=false:=by rfl) :
  EO X B (.Call (.Name "sorted" p) [.Name z p1] [] pos) (sortN i):=PE.imp (eN' (jL' (hu100 hr) hc) hg hm PyProof.Rows.boot_sorted (d1' hv gB' he) (by decide) (by decide) he hpl) λσ H Q q=>by
 obtain ⟨G,I,Γ,d,Γ',r,e1,kk⟩:=q
 obtain ⟨kvs,Γ1,e2,e3⟩:=ae' e1
 obtain ⟨e4,rfl⟩:=ao' e3
 obtain ⟨h64,rfl⟩:=aw' e4
 obtain ⟨rfl,_,a,xs,f1,f2,f3⟩:=dF' e2 r
 refine ⟨_,f1,a,xs,kvs.map (·.1),rfl,f2,by rw [f3.1,List.map_map];rfl,by simpa using h64,λl q' hp hs hl=>?_⟩
 have ek:(kvs.map (·.1)).map D.int=keysD kvs:=by unfold keysD;rw [List.map_map];rfl
 rw [ek] at hp hs
 exact kk l _ _ _ (r.fresh hl _) (Grow.refl _ _) av' (r.iFree hl) (r.gFree hl) (r.apart hl) (by rw [← hs];exact (jR' kvs).perm hp)
inductive KX (X:Cx):List Expr->M (List D)->Prop
 | nil:KX X [] nilA
 | int {i:Int} {a b es t}:KX X es t->KX X (.Constant (.int i) a b::es) (consA (ret (.int i)) t)
 | bl {i:Bool} {a b es t}:KX X es t->KX X (.Constant (.bool i) a b::es) (consA (ret (.bl i)) t)
 | non {a b es t}:KX X es t->KX X (.Constant .none a b::es) (consA (ret .non) t)
 | str {i:Str} {a b es t}:KX X es t->KX X (.Constant (.str i) a b::es) (consA (ret (.str i)) t)
 | neg {i:Int} {a b p es t}:KX X es t->KX X (.UnaryOp .USub (.Constant (.int i) a b) p::es) (consA (un1 negI (ret (.int i))) t)
 | pow {i j:Int} {a b a' b' p es t}:KX X es t->KX X (.BinOp (.Constant (.int i) a b) .Pow (.Constant (.int j) a' b') p::es) (consA (op2 powI (ret (.int i)) (ret (.int j))) t)
 | nm {z p i es t}:PE X (.Name z p) (tVar i)->KX X es t->KX X (.Name z p::es) (consA (nm i) t)
 | tup {fs u x p es t}:KX X fs u->KX X es t->KX X (.Tuple fs x p::es) (consA (tupA u) t)
 | lst {fs u p es t}:KX X fs u->KX X es t->KX X (.List fs p::es) (consA (frz (lstA u)) t)
theorem KX.ad {es:List Expr}{t:M (List D)} (h:KX X es t):AD X B es t:=by
 induction h with
 | nil=>exact ac'
 | int _ ih=>exact ab' ad' ih rfl
 | bl _ ih=>exact ab' bt' ih rfl
 | non _ ih=>exact ab' cD' ih rfl
 | str _ ih=>exact ab' je' ih rfl
 | neg _ ih=>exact ab' (dB' ad') ih rfl
 | pow _ ih=>exact ab' (jk' ad' ad') ih rfl
 | nm h _ ih=>exact ab' (pf' h) ih rfl
 | tup _ _ ih1 ih2=>exact ab' (aM' ih1) ih2 rfl
 | lst _ _ ih1 ih2=>exact ab' (ar' (aN' ih1)) ih2 rfl
end
end DL
namespace DL
open PySem L2
variable {α β:Type}
def wp (m:M α) (Γ:Gm) (Q:α->Gm->Prop):Prop:=∃ a Γ',m Γ=some (a,Γ')/\Q a Γ'
def wpF (g:List R->Option (R×List R)) (rs:List R) (Q:R->List R->Prop):Prop:=∃ r rs',g rs=some (r,rs')/\Q r rs'
def wpB (g:List R->Option (R×List R)) (c ds:List D) (Q:R->List D->Prop):Prop:=∃ r c',bcF g c ds=some (r,c')/\Q r c'
section
variable {Γ:Gm}{Q:α->Gm->Prop}{QD:D->Gm->Prop}{QL:List D->Gm->Prop}{QB:Bool->Gm->Prop}{QS:Fl->Gm->Prop}{QU:Unit->Gm->Prop}
theorem wp.mono {m:M α}{Q':α->Gm->Prop} (h:wp m Γ Q) (f:∀ a Γ,Q a Γ->Q' a Γ):wp m Γ Q':=by
 obtain ⟨a,Γ',e,q⟩:=h
 exact ⟨a,Γ',e,f _ _ q⟩
@[simp ↓] theorem dG' {a:α}:wp (ret a) Γ Q↔Q a Γ:=by
 constructor
 ·rintro ⟨b,Γ',e,q⟩;cases e;exact q
 ·intro q;exact ⟨_,_,rfl,q⟩
@[simp ↓] theorem aG' {β:Type}{m:M β}{f:β->M α}:wp (bnd m f) Γ Q↔wp m Γ λb Γ1=>wp (f b) Γ1 Q:=by
 constructor
 ·rintro ⟨a,Γ',e,q⟩
  obtain ⟨b,Γ1,e1,e2⟩:=ae' e
  exact ⟨b,Γ1,e1,a,Γ',e2,q⟩
 ·rintro ⟨b,Γ1,e1,a,Γ',e2,q⟩
  exact ⟨a,Γ',by unfold bnd;rw [e1];exact e2,q⟩
@[simp ↓] theorem rF' {a:α}:wp (lft (some a)) Γ Q↔Q a Γ:=by
 constructor
 ·rintro ⟨b,Γ',e,q⟩;cases e;exact q
 ·intro q;exact ⟨_,_,rfl,q⟩
theorem fx' {o:Option α}{a:α} (h:o=some a):wp (lft o) Γ Q↔Q a Γ:=by rw [h,rF']
@[simp ↓] theorem uf' {i:Nat}:wp (nm i) Γ QD↔match Γ[i]? with
  | some (some (.val d))=>QD d Γ
  | some (some (.own ds))=>QD (.lst ds) (Γ.set i (some (.val (.lst ds))))
  | some (some (.fro ds))=>QD (.lst ds) Γ
  | _=>False:=by
 unfold wp nm
 rcases e:Γ[i]? with _ | _ | r
 ·simp
 ·simp
 ·cases r<;>simp<;>exact ⟨λ⟨_,_,⟨h1,h2⟩,q⟩=>by subst h1;subst h2;exact q,λq=>⟨_,_,⟨rfl,rfl⟩,q⟩⟩
@[simp ↓] theorem nJ' {F:D->D->Option α}{a b:M D}:wp (op2 F a b) Γ Q↔wp a Γ λx Γ1=>wp b Γ1 λy Γ2=>wp (lft (F x y)) Γ2 Q:=by simp [op2]
@[simp ↓] theorem tH' {F:List D->Option α}{t:M (List D)}:wp (fn1 F t) Γ Q↔wp t Γ λds Γ1=>wp (lft (F ds)) Γ1 Q:=by simp [fn1]
@[simp ↓] theorem s4':wp nilA Γ QL↔QL [] Γ:=by simp [nilA]
@[simp ↓] theorem sV' {g:M D}{t:M (List D)}:wp (consA g t) Γ QL↔wp g Γ λd Γ1=>wp t Γ1 λds Γ2=>QL (d::ds) Γ2:=by simp [consA]
@[simp ↓] theorem s5' {t:M (List D)}:wp (tupA t) Γ QD↔wp t Γ λds Γ1=>wp (lft (if ds.length<=lim then some (.tup ds) else none)) Γ1 QD:=by simp [tupA]
@[simp ↓] theorem s6' {t:M (List D)}:wp (lstA t) Γ QL↔wp t Γ λds Γ1=>wp (lft (if ds.length<=lim then some ds else none)) Γ1 QL:=by simp [lstA]
@[simp ↓] theorem tI' {t:M (List D)}:wp (frz t) Γ QD↔wp t Γ λds Γ1=>QD (.lst ds) Γ1:=by simp [frz]
@[simp ↓] theorem tJ' {g:M D}:wp (tst g) Γ QB↔wp g Γ λd Γ1=>wp (lft (asB d)) Γ1 QB:=by simp [tst]
@[simp] theorem tK' {b:Bool}:asB (.bl b)=some b:=rfl
@[simp] theorem s7' {b:Int}:asI (.int b)=some b:=rfl
@[simp ↓] theorem tL' {F F':D->D->Option D}{a b c:M D}:wp (chn F F' a b c) Γ QD↔wp a Γ λx Γ1=>wp b Γ1 λy Γ2=>wp (lft (F x y)) Γ2 λz Γ3=>wp (lft (asB z)) Γ3 λk Γ4=>if k=true then wp c Γ4 λw Γ5=>wp (lft (F' y w)) Γ5 QD else QD (.bl false) Γ4:=by
 simp only [chn,aG']
 constructor<;>(intro h;refine h.mono λx Γ1 h=>h.mono λy Γ2 h=>h.mono λz Γ3 h=>h.mono λk Γ4 h=>?_)<;>(cases k<;>simpa using h)
@[simp ↓] theorem s8' {a b:M Bool}:wp (andT a b) Γ QB↔wp a Γ λk Γ1=>if k=true then wp b Γ1 QB else QB false Γ1:=by
 simp only [andT,aG']
 constructor<;>(intro h;refine h.mono λk Γ1 h=>?_)<;>(cases k<;>simpa using h)
@[simp ↓] theorem tM' {a b:M Bool}:wp (orT a b) Γ QB↔wp a Γ λk Γ1=>if k=true then QB true Γ1 else wp b Γ1 QB:=by
 simp only [orT,aG']
 constructor<;>(intro h;refine h.mono λk Γ1 h=>?_)<;>(cases k<;>simpa using h)
@[simp ↓] theorem s9' {a:M Bool}:wp (notT a) Γ QB↔wp a Γ λk Γ1=>QB (!k) Γ1:=by simp [notT]
@[simp ↓] theorem ta' {a b:M D}:wp (andV a b) Γ QD↔wp a Γ λd Γ1=>wp (lft (asB d)) Γ1 λk Γ2=>if k=true then wp b Γ2 QD else QD (.bl false) Γ2:=by
 simp only [andV,aG']
 constructor<;>(intro h;refine h.mono λd Γ1 h=>h.mono λk Γ2 h=>?_)<;>(cases k<;>simpa using h)
@[simp ↓] theorem tb' {a:M D}:wp (notV a) Γ QD↔wp a Γ λd Γ1=>wp (lft (asB d)) Γ1 λk Γ2=>QD (.bl (!k)) Γ2:=by simp [notV]
@[simp ↓] theorem tN' {c:M Bool}{a b:M D}:wp (ifV c a b) Γ QD↔wp c Γ λk Γ1=>if k=true then wp a Γ1 QD else wp b Γ1 QD:=by
 simp only [ifV,aG']
 constructor<;>(intro h;refine h.mono λk Γ1 h=>?_)<;>(cases k<;>simpa using h)
theorem ls' {a b:M Fl}:wp (seqS a b) Γ QS↔wp a Γ λf Γ1=>match f with
  | .nx=>wp b Γ1 QS
  | .rt r=>QS (.rt r) Γ1
  | .bk=>QS .bk Γ1
  | .ct=>QS .ct Γ1:=by
 simp only [seqS,aG']
 constructor<;>(intro h;refine h.mono λf Γ1 h=>?_)<;>(cases f<;>simpa using h)
@[simp ↓] theorem sW' {a:M D}:wp (dropS a) Γ QS↔wp a Γ λ_ Γ1=>QS .nx Γ1:=by simp [dropS]
@[simp ↓] theorem qj' {a:M D}:wp (retS a) Γ QS↔wp a Γ λd Γ1=>QS (.rt (.val d)) Γ1:=by simp [retS]
@[simp ↓] theorem tc' {a:M (List D)}:wp (retO a) Γ QS↔wp a Γ λd Γ1=>QS (.rt (.own d)) Γ1:=by simp [retO]
@[simp ↓] theorem rG' {c:M Bool}{a b:M Fl}:wp (ifS c a b) Γ QS↔wp c Γ λk Γ1=>if k=true then wp a Γ1 QS else wp b Γ1 QS:=by
 simp only [ifS,aG']
 constructor<;>(intro h;refine h.mono λk Γ1 h=>?_)<;>(cases k<;>simpa using h)
@[simp ↓] theorem td' {i:Nat}{q:R}:wp (putS i q) Γ QU↔i < Γ.length/\QU () (Γ.set i (some q)):=by
 unfold wp putS
 constructor
 ·rintro ⟨a,Γ',e,h⟩
  obtain ⟨h1,h2⟩:=aw' e
  cases h2
  exact ⟨h1,h⟩
 ·rintro ⟨h1,h2⟩
  exact ⟨(),_,by rw [if_pos h1],h2⟩
@[simp ↓] theorem tO' {i:Nat}{d:D}:wp (tgN i d) Γ QU↔i < Γ.length/\QU () (Γ.set i (some (.val d))):=by simp [tgN]
@[simp ↓] theorem sX':wp (tgNil []) Γ QU↔QU () Γ:=by simp [tgNil]
@[simp ↓] theorem sN' {f:D->M Unit}{t:List D->M Unit}{d:D}{ds:List D}:wp (tgCons f t (d::ds)) Γ QU↔wp (f d) Γ λ_ Γ1=>wp (t ds) Γ1 QU:=by simp [tgCons]
@[simp ↓] theorem sY' {n:Nat}{t:List D->M Unit}{ds:List D}:wp (tgTup n t (.tup ds)) Γ QU↔ds.length=n/\wp (t ds) Γ QU:=by
 unfold tgTup
 by_cases h:ds.length=n
 ·simp [h]
 ·simp only [h,if_false,false_and,iff_false]
  rintro ⟨_,_,e,_⟩;cases e
@[simp ↓] theorem te' {g:M D}{f:D->M Unit}:wp (asgS g f) Γ QS↔wp g Γ λd Γ1=>wp (f d) Γ1 λ_ Γ2=>QS .nx Γ2:=by simp [asgS]
@[simp ↓] theorem hT' {i:Nat}{g:M D}:wp (setV i g) Γ QS↔wp g Γ λd Γ1=>i < Γ1.length/\QS .nx (Γ1.set i (some (.val d))):=by simp [setV]
@[simp ↓] theorem tf' {i:Nat}{g:M (List D)}:wp (setO i g) Γ QS↔wp g Γ λd Γ1=>i < Γ1.length/\QS .nx (Γ1.set i (some (.own d))):=by simp [setO]
@[simp ↓] theorem dl' {i:Nat}{m:M α}:wp (mutS i m) Γ Q↔isMut Γ i=true/\wp m Γ Q:=by
 unfold mutS wp
 by_cases h:isMut Γ i=true
 ·simp [h]
 ·simp [h]
@[simp ↓] theorem ug' {i:Nat}{F:List D->Option (List D)}:wp (wr i F) Γ QU↔match Γ[i]? with
  | some (some (.own ds))=>∃ es,F ds=some es/\QU () (Γ.set i (some (.own es)))
  | some (some (.bor ds))=>∃ es,F ds=some es/\QU () (Γ.set i (some (.bor es)))
  | _=>False:=by
 unfold wp wr
 rcases e:Γ[i]? with _ | _ | r
 ·simp
 ·simp
 ·cases r with
  | val d=>simp
  | fro d=>simp
  | dic d=>simp
  | own ds =>
   rcases he:F ds with _ | es
   ·simp [he]
   ·simp [he]
    exact ⟨λ⟨_,q⟩=>q,λq=>⟨(),q⟩⟩
  | bor ds =>
   rcases he:F ds with _ | es
   ·simp [he]
   ·simp [he]
    exact ⟨λ⟨_,q⟩=>q,λq=>⟨(),q⟩⟩
@[simp ↓] theorem tg' {i:Nat}{g:M D}:wp (appS i g) Γ QS↔isMut Γ i=true/\wp g Γ λd Γ1=>wp (wr i (appF d)) Γ1 λ_ Γ2=>QS .nx Γ2:=by simp only [appS,dl',aG',dG']
@[simp ↓] theorem tP' {i:Nat}{gi gv:M D}:wp (stS i gi gv) Γ QS↔wp gv Γ λd Γ1=>isMut Γ1 i=true/\wp gi Γ1 λn Γ2=>wp (lft (asI n)) Γ2 λk Γ3=>wp (wr i (stF k d)) Γ3 λ_ Γ4=>QS .nx Γ4:=by simp only [stS,dl',aG',dG']
@[simp ↓] theorem th' {i:Nat}:wp (look i) Γ QD↔match Γ[i]? with
  | some (some (.own ds))=>QD (.lst ds) Γ
  | some (some (.bor ds))=>QD (.lst ds) Γ
  | _=>False:=by
 unfold wp look
 rcases e:Γ[i]? with _ | _ | r
 ·simp
 ·simp
 ·cases r<;>simp<;>exact ⟨λ⟨_,_,⟨h1,h2⟩,q⟩=>by subst h1;subst h2;exact q,λq=>⟨_,_,⟨rfl,rfl⟩,q⟩⟩
@[simp ↓] theorem tQ' {i:Nat}{g:M D}:wp (atN i g) Γ QD↔isMut Γ i=true/\wp g Γ λn Γ1=>wp (look i) Γ1 λl Γ2=>wp (lft (ixF l n)) Γ2 QD:=by simp only [atN,dl',aG']
@[simp ↓] theorem ti' {neg:Bool}{i:Nat}{g:M D}:wp (cmpN neg i g) Γ QD↔isMut Γ i=true/\wp g Γ λn Γ1=>wp (look i) Γ1 λl Γ2=>wp (lft (eqF neg l n)) Γ2 QD:=by simp only [cmpN,dl',aG']
@[simp ↓] theorem tR' {g:M D}{QO:Option Int->Gm->Prop}:wp (prt g) Γ QO↔wp g Γ λd Γ1=>wp (lft (asI d)) Γ1 λi Γ2=>QO (some i) Γ2:=by simp [prt]
@[simp ↓] theorem tS' {F:D->Option Int->Option Int->Option α}{g:M D}{gl gh:M (Option Int)}:wp (sl3 F g gl gh) Γ Q↔wp g Γ λd Γ1=>wp gl Γ1 λl Γ2=>wp gh Γ2 λh Γ3=>wp (lft (F d l h)) Γ3 Q:=by simp [sl3]
@[simp ↓] theorem tT' {g:M D}:wp (itS g) Γ QL↔wp g Γ λd Γ1=>wp (lft (seqI d)) Γ1 QL:=by simp [itS]
@[simp ↓] theorem tj' {it:M (List D)}{tgt:D->M Unit}{body:M Fl}:wp (forS it tgt body) Γ QS↔wp it Γ λds Γ1=>wp (forM tgt body ds) Γ1 QS:=by simp [forS]
@[simp ↓] theorem sZ' {i:Nat}{g:List R->Option (R×List R)}{t:M (List D)}{QR:R->Gm->Prop}:wp (callB i g t) Γ QR↔isMut Γ i=true/\wp t Γ λds Γ1=>match Γ1[i]? with
  | some (some (.own c))=>wpB g c ds λr c'=>QR r (Γ1.set i (some (.own c')))
  | some (some (.bor c))=>wpB g c ds λr c'=>QR r (Γ1.set i (some (.bor c')))
  | _=>False:=by
 simp only [callB,dl',aG']
 refine and_congr_right λ_=>?_
 have key:∀ (ds:List D) (Γ1:Gm),wp (λΓ:Gm=>match Γ[i]? with
   | some (some (.own c))=>match bcF g c ds with
    | some (r,c')=>some (r,Γ.set i (some (.own c')))
    | none=>none
   | some (some (.bor c))=>match bcF g c ds with
    | some (r,c')=>some (r,Γ.set i (some (.bor c')))
    | none=>none
   | _=>none) Γ1 QR↔(match Γ1[i]? with
  | some (some (.own c))=>wpB g c ds λr c'=>QR r (Γ1.set i (some (.own c')))
  | some (some (.bor c))=>wpB g c ds λr c'=>QR r (Γ1.set i (some (.bor c')))
  | _=>False):=by
  intro ds Γ1
  unfold wp wpB
  dsimp only
  rcases e:Γ1[i]? with _ | _ | r
  ·simp
  ·simp
  ·cases r with
   | val d=>simp
   | fro d=>simp
   | dic d=>simp
   | own c =>
    rcases he:bcF g c ds with _ | ⟨r,c'⟩
    ·simp [he]
    ·simp only [he]
     constructor
     ·rintro ⟨a,b,h,q⟩;cases h;exact ⟨_,_,rfl,q⟩
     ·rintro ⟨a,b,h,q⟩;cases h;exact ⟨_,_,rfl,q⟩
   | bor c =>
    rcases he:bcF g c ds with _ | ⟨r,c'⟩
    ·simp [he]
    ·simp only [he]
     constructor
     ·rintro ⟨a,b,h,q⟩;cases h;exact ⟨_,_,rfl,q⟩
     ·rintro ⟨a,b,h,q⟩;cases h;exact ⟨_,_,rfl,q⟩
 constructor
 ·intro h;exact h.mono λds Γ1 h=>(key ds Γ1).mp h
 ·intro h;exact h.mono λds Γ1 h=>(key ds Γ1).mpr h
@[simp ↓] theorem tU' {i:Nat}{g:List R->Option (R×List R)}{t:M (List D)}:wp (cbV i g t) Γ QD↔wp (callB i g t) Γ λr Γ1=>wp (lft (asV r)) Γ1 QD:=by simp only [cbV,aG']
@[simp] theorem tl' {d:D}:asV (.val d)=some d:=rfl
@[simp] theorem tm' {d:List D}:asO (.own d)=some d:=rfl
theorem lu' {tgt:D->M Unit}{body:M Fl}{ds:List D} (J:Nat->Gm->Prop) (h0:J 0 Γ)
  (hs:∀ (i:Nat) (d:D) (Γ:Gm),ds[i]?=some d->J i Γ->wp (tgt d) Γ λ_ Γ1=>wp body Γ1 λf Γ2=>match f with
   | .nx=>J (i+1) Γ2
   | .ct=>J (i+1) Γ2
   | .bk=>QS .nx Γ2
   | .rt r=>QS (.rt r) Γ2) (hd:∀ Γ,J ds.length Γ->QS .nx Γ):wp (forM tgt body ds) Γ QS:=by
 have key:∀ (n:Nat) (es:List D) (Γ:Gm) (i:Nat),es.length=n->ds.drop i=es->i<=ds.length->J i Γ->wp (forM tgt body es) Γ QS:=by
  intro n
  induction n with
  | zero =>
   intro es Γ i hl he hi hj
   have:es=[]:=List.length_eq_zero_iff.mp hl
   subst this
   have hi2:i=ds.length:=by
    have:=congrArg List.length he
    rw [List.length_drop] at this
    simp at this;omega
   subst hi2
   exact ⟨_,_,rfl,hd Γ hj⟩
  | succ n ih =>
   intro es Γ i hl he hi hj
   cases es with
   | nil=>simp at hl
   | cons d es =>
    have hlt:i < ds.length:=by
     have:=congrArg List.length he
     rw [List.length_drop,List.length_cons] at this
     omega
    have he2:ds.drop i=ds[i]::ds.drop (i+1):=List.drop_eq_getElem_cons hlt
    rw [he2] at he
    injection he with e1 e2
    have hd':ds[i]?=some d:=by rw [List.getElem?_eq_getElem hlt,e1]
    have step:=hs i d Γ hd' hj
    rw [forM,aG']
    refine step.mono λ_ Γ1 h1=>?_
    rw [aG']
    refine h1.mono λf Γ2 h2=>?_
    cases f with
    | nx=>exact ih es Γ2 (i+1) (by simpa using hl) e2 hlt h2
    | ct=>exact ih es Γ2 (i+1) (by simpa using hl) e2 hlt h2
    | bk=>exact ⟨_,_,rfl,h2⟩
    | rt r=>exact ⟨_,_,rfl,h2⟩
 exact key ds.length ds Γ 0 rfl rfl (Nat.zero_le _) h0
theorem lv' {n ar:Nat}{body:M Fl}{rs:List R}{QR:R->List R->Prop} (hl:rs.length=ar) (h:wp body (rs.map some++List.replicate (n - rs.length) none) λf Γ'=>∃ r,flR f=some r/\∃ l,fin rs Γ'=some l/\QR r l):wpF (fnD n ar body) rs QR:=by
 obtain ⟨f,Γ',e,r,e1,l,e2,q⟩:=h
 refine ⟨r,l,?_,q⟩
 unfold fnD
 rw [if_pos hl]
 unfold fnD1
 rw [e]
 simp only [e1,e2]
theorem rH' {g:List R->Option (R×List R)}{ds:List D}{d:D} (h:wpF g (ds.map .val) λr _=>r=.val d):cvF g ds=some d:=by
 obtain ⟨r,rs',e,rfl⟩:=h
 unfold cvF
 rw [e]
theorem rI' {g:List R->Option (R×List R)}{ds:List D}{P:List D->Prop} (h:wpF g (ds.map .val) λr _=>∃ d,r=.own d/\P d):∃ d,coF g ds=some d/\P d:=by
 obtain ⟨r,rs',e,d,rfl,hp⟩:=h
 exact ⟨d,by unfold coF;rw [e],hp⟩
theorem rJ' {g:List R->Option (R×List R)}{c ds:List D}{QR:R->List D->Prop} (h:wpF g (.bor c::ds.map .val) λr rs'=>∃ c' t,rs'=.bor c'::t/\QR r c'):wpB g c ds QR:=by
 obtain ⟨r,rs',e,c',t,rfl,q⟩:=h
 exact ⟨r,c',by unfold bcF;rw [e],q⟩
end
end DL
namespace DL
open PySem L2
section
variable {α:Type}{Γ:Gm}{Q:α->Gm->Prop}{QD:D->Gm->Prop}{QL:List D->Gm->Prop}{i j:Int}
@[simp ↓] theorem bM' {c:Prop} [Decidable c]{a:α}:wp (lft (if c then some a else none)) Γ Q↔c/\Q a Γ:=by
 by_cases h:c
 ·simp [h]
 ·simp only [h,if_false,false_and,iff_false]
  rintro ⟨_,_,e,_⟩;cases e
@[simp ↓] theorem rW':wp (lft (none:Option α)) Γ Q↔False:=by
 simp only [iff_false]
 rintro ⟨_,_,e,_⟩;cases e
@[simp ↓] theorem tn':wp (λ_=>(none:Option (α×Gm))) Γ Q↔False:=by
 simp only [iff_false]
 rintro ⟨_,_,e,_⟩;cases e
@[simp] theorem uh':subI (.int i) (.int j)=some (.int (i - j)):=rfl
@[simp] theorem ui':addF (.int i) (.int j)=some (.int (i+j)):=rfl
@[simp] theorem f_lt:ltI (.int i) (.int j)=some (.bl (decide (i < j))):=rfl
@[simp] theorem f_le:leI (.int i) (.int j)=some (.bl (decide (i<=j))):=rfl
@[simp] theorem f_gt:gtI (.int i) (.int j)=some (.bl (decide (j < i))):=rfl
@[simp] theorem f_ge:geI (.int i) (.int j)=some (.bl (decide (j<=i))):=rfl
@[simp ↓] theorem tV':wp (lft (modI (.int i) (.int j))) Γ QD↔0 < j/\QD (.int (i % j)) Γ:=by simp [modI,intF]
@[simp ↓] theorem tW':wp (lft (divI (.int i) (.int j))) Γ QD↔(0 < j/\j < 2 ^ 200)/\QD (.int (i / j)) Γ:=by simp only [divI,intF,decide_eq_true_eq,bM']
@[simp ↓] theorem tX':wp (lft (mulI (.int i) (.int j))) Γ QD↔((-(2 ^ 64) < i/\i < 2 ^ 64)\/(-(2 ^ 64) < j/\j < 2 ^ 64))/\QD (.int (i*j)) Γ:=by simp only [mulI,intF,decide_eq_true_eq,bM']
@[simp ↓] theorem tY':wp (lft (powI (.int i) (.int j))) Γ QD↔(0<=j/\j<=1000000/\i.natAbs < 2 ^ 64)/\QD (.int (i ^ j.toNat)) Γ:=by simp only [powI,intF,decide_eq_true_eq,bM']
@[simp] theorem uj' {ds:List D}:ixF (.lst ds) (.int i)=atI ds i:=rfl
@[simp] theorem uk' {ds:List D}:ixF (.tup ds) (.int i)=atI ds i:=rfl
theorem gW' {α:Type}{ds:List α}{n:Nat}:atI ds (n:Int)=ds[n]?:=by
 unfold atI ixN
 rw [if_pos (by omega)]
 by_cases h:(n:Int) < ds.length
 ·rw [if_pos h];simp
 ·rw [if_neg h]
  have:ds.length<=n:=by omega
  simp [List.getElem?_eq_none this]
@[simp] theorem ul' {α:Type}{a:α}{ds:List α}:atI (a::ds) 0=some a:=by
 rw [show (0:Int)=((0:Nat):Int) from rfl,gW'];rfl
@[simp] theorem um' {α:Type}{a b:α}{ds:List α}:atI (a::b::ds) 1=some b:=by
 rw [show (1:Int)=((1:Nat):Int) from rfl,gW'];rfl
@[simp] theorem un' {α:Type}{a b c:α}{ds:List α}:atI (a::b::c::ds) 2=some c:=by
 rw [show (2:Int)=((2:Nat):Int) from rfl,gW'];rfl
theorem ce' {α:Type}{ds:List α}{i:Int} (h0:0<=i) (h1:i < ds.length):∃ a,atI ds i=some a/\a∈ds:=by
 obtain ⟨n,rfl⟩:=Int.eq_ofNat_of_zero_le h0
 have h:n < ds.length:=by omega
 exact ⟨ds[n],by rw [gW',List.getElem?_eq_getElem h],List.getElem_mem h⟩
@[simp] theorem uo' {a b d:D}{ds:List D}:stF 1 d (a::b::ds)=some (a::d::ds):=by
 unfold stF ixN
 rw [if_pos (by omega),if_pos (by simp;omega)]
 rfl
@[simp] theorem up' {a b c d:D}{ds:List D}:stF 2 d (a::b::c::ds)=some (a::b::d::ds):=by
 unfold stF ixN
 rw [if_pos (by omega),if_pos (by simp;omega)]
 rfl
@[simp] theorem tZ' {ds:List D}:lenF [.lst ds]=some (.int ds.length):=rfl
@[simp] theorem t0' {ds:List D}:lenF [.tup ds]=some (.int ds.length):=rfl
@[simp] theorem uq':minF [.int i,.int j]=some (.int (min i j)):=by
 unfold minF;dsimp only;congr 2;split<;>omega
@[simp] theorem ur':maxF [.int i,.int j]=some (.int (max i j)):=by
 unfold maxF;dsimp only;congr 2;split<;>omega
@[simp] theorem t1' {ds:List D}:tupF [.lst ds]=some (.tup ds):=rfl
@[simp] theorem t2' {ds:List D}:tupF [.tup ds]=some (.tup ds):=rfl
@[simp] theorem t3' {ds:List D}:lstF [.lst ds]=some ds:=rfl
@[simp] theorem t4' {ds:List D}:lstF [.tup ds]=some ds:=rfl
@[simp] theorem t5' {ds:List D}:seqI (.lst ds)=some ds:=rfl
@[simp] theorem t6' {ds:List D}:seqI (.tup ds)=some ds:=rfl
@[simp] theorem t7' {b:Bool}:reprF [.bl b]=some (.str (if b then "True" else "False")):=rfl
@[simp] theorem ut' {ds:List D}{lo hi:Option Int}:slF (.lst ds) lo hi=some (.lst (cutD ds lo hi)):=rfl
@[simp] theorem t8' {xs ys:List D}:zipI [.lst xs,.lst ys]=some (pairsD xs ys):=rfl
@[simp] theorem t9' {xs ys:List D}:zipI [.tup xs,.tup ys]=some (pairsD xs ys):=rfl
@[simp] theorem tp' {xs:List D}:enumI [.lst xs]=some (numD 0 xs):=rfl
@[simp] theorem tq' {xs:List D}:enumI [.tup xs]=some (numD 0 xs):=rfl
@[simp ↓] theorem tr':wp (lft (rngI1 [.int j])) Γ QL↔(-1000000<=j/\j<=1000000)/\QL (rngD 0 j.toNat) Γ:=by simp only [rngI1,bM']
@[simp ↓] theorem ts':wp (lft (rngI2 [.int i,.int j])) Γ QL↔((-1000000<=i/\i<=1000000)/\-1000000<=j/\j<=1000000)/\QL (rngD i (j - i).toNat) Γ:=by simp only [rngI2,bM']
@[simp ↓] theorem uu' {neg:Bool}{a b:D}:wp (lft (eqF neg a b)) Γ QD↔(dep a<=100\/dep b<=100)/\QD (.bl (if neg then !deq a b else deq a b)) Γ:=by simp only [eqF,bM']
@[simp ↓] theorem ua' {xs ys:List D}:wp (lft (catF (.lst xs) (.lst ys))) Γ QL↔xs.length+ys.length<=lim/\QL (xs++ys) Γ:=by simp only [catF,bM']
@[simp ↓] theorem tt' {xs ys:List D}:wp (lft (addF (.tup xs) (.tup ys))) Γ QD↔xs.length+ys.length<=lim/\QD (.tup (xs++ys)) Γ:=by simp only [addF,bM']
@[simp] theorem tu' {a:Int}:dep (.int a)=0:=by simp [dep]
@[simp] theorem tv' {a:Str}:dep (.str a)=0:=by simp [dep]
@[simp] theorem tw':dep (.lst [])=1:=by simp [dep,depA]
@[simp] theorem tx' {a b:Str}:deq (.str a) (.str b)=(a == b):=by simp [deq]
@[simp] theorem aE' {a b:Int}:deq (.int a) (.int b)=(a == b):=by simp [deq]
@[simp] theorem ty' {ds:List D}:deq (.lst ds) (.lst [])=ds.isEmpty:=by cases ds<;>simp [deq,deqA]
@[simp] theorem s0' {a b:Bool}:deq (.str (if a then "True" else "False")) (.str (if b then "True" else "False"))=(a == b):=by cases a<;>cases b<;>decide
@[simp] theorem rK':lim=1000000:=rfl
theorem l2' {n d k:Nat}:HT.sIx n d (some (k:Int))=min k n:=by
 show (if (k:Int) < 0 then ((k:Int)+(n:Int)).toNat else min (k:Int).toNat n)=min k n
 rw [if_neg (by omega),Int.toNat_natCast]
theorem ed' {ds:List D}{n:Nat}:cutD ds none (some (n:Int))=ds.take n:=by
 unfold cutD
 rw [l2',HT.sU']
 simp
theorem eX' {ds:List D}{n:Nat}:cutD ds (some (n:Int)) none=ds.drop n:=by
 unfold cutD
 rw [l2',HT.sU',List.take_of_length_le (by simp)]
 by_cases h:n<=ds.length
 ·rw [Nat.min_eq_left h]
 ·rw [Nat.min_eq_right (by omega),List.drop_of_length_le (Nat.le_refl _),List.drop_of_length_le (by omega)]
@[simp] theorem ub' {d:D}{ds:List D}{P:List D->Prop}:(∃ es,appF d ds=some es/\P es)↔ds.length < 1000000/\P (ds++[d]):=by
 unfold appF
 rw [rK']
 by_cases h:ds.length < 1000000<;>simp [h]
theorem af' {a b:M Fl}{QS:Fl->Gm->Prop} (h:∀ K:Fl->Gm->Prop,(∀ Γ1,wp b Γ1 QS->K .nx Γ1)->(∀ r Γ1,QS (.rt r) Γ1->K (.rt r) Γ1)->wp a Γ K):wp (seqS a b) Γ QS:=by
 rw [ls']
 exact h _ (λ_ h=>h) (λ_ _ h=>h)
theorem hU' {a b:M Fl}{QS:Fl->Gm->Prop} (P:Gm->Prop) (h:∀ K:Fl->Gm->Prop,(∀ Γ1,P Γ1->K .nx Γ1)->(∀ r Γ1,QS (.rt r) Γ1->K (.rt r) Γ1)->wp a Γ K) (h2:∀ Γ1,P Γ1->wp b Γ1 QS):wp (seqS a b) Γ QS:=by
 rw [ls']
 exact h _ (λ_ p=>h2 _ p) (λ_ _ h=>h)
theorem bF' {tgt:D->M Unit}{body:M Fl}{ds:List D}{QS:Fl->Gm->Prop} (J:Nat->Gm->Prop) (h0:J 0 Γ)
  (hs:∀ (i:Nat) (d:D) (Γ:Gm),ds[i]?=some d->J i Γ->∀ K:Fl->Gm->Prop,(∀ Γ2,J (i+1) Γ2->K .nx Γ2)->(∀ Γ2,J (i+1) Γ2->K .ct Γ2)->(∀ Γ2,QS .nx Γ2->K .bk Γ2)->(∀ r Γ2,QS (.rt r) Γ2->K (.rt r) Γ2)->wp (tgt d) Γ λ_ Γ1=>wp body Γ1 K) (hd:∀ Γ,J ds.length Γ->QS .nx Γ):wp (forM tgt body ds) Γ QS :=
 lu' J h0 (λi d Γ h j=>hs i d Γ h j _ (λ_ h=>h) (λ_ h=>h) (λ_ h=>h) (λ_ _ h=>h)) hd
theorem cR' {n ar:Nat}{body:M Fl}{rs:List R}{QR:R->List R->Prop} (hl:rs.length=ar) (h:∀ K:Fl->Gm->Prop,(∀ r Γ',(∃ l,fin rs Γ'=some l/\QR r l)->K (.rt r) Γ')->(∀ Γ',(∃ l,fin rs Γ'=some l/\QR (.val .non) l)->K .nx Γ')->wp body (rs.map some++List.replicate (n - rs.length) none) K):wpF (fnD n ar body) rs QR :=
 lv' hl (h _ (λr _ h=>⟨r,rfl,h⟩) (λ_ h=>⟨_,rfl,h⟩))
theorem cS' {n ar:Nat}{body:M Fl}{c ds:List D}{QR:R->List D->Prop} (hl:ds.length+1=ar) (h:∀ K:Fl->Gm->Prop,(∀ r c' Γ',(∃ t,fin (ds.map .val) Γ'=some t)->QR r c'->K (.rt r) (some (.bor c')::Γ'))->(∀ c' Γ',(∃ t,fin (ds.map .val) Γ'=some t)->QR (.val .non) c'->K .nx (some (.bor c')::Γ'))->wp body ((.bor c::ds.map .val).map some++List.replicate (n - (ds.length+1)) none) K):wpB (fnD n ar body) c ds QR:=by
 refine rJ' (cR' (by simpa using hl) λK k1 k2=>?_)
 refine (by simpa using h K (λr c' Γ' ⟨t,e⟩ q=>k1 r _ ⟨_,by simp [fin,e],c',t,rfl,q⟩) (λc' Γ' ⟨t,e⟩ q=>k2 _ ⟨_,by simp [fin,e],c',t,rfl,q⟩))
theorem jS' {α:Type}{m:Nat}{tgt:D->M Unit}{ts:M Bool}{el:M D}{it:M (List D)} (xs:List α) (f:α->D) (p:α->Bool) (v:α->D)
  (h:wp it Γ λds Γ1=>ds=xs.map f/\xs.length<=1000000/\(∀ x∈xs,∀ cs:Gm,cs.length=m->wp (tgt (f x)) (cs++Γ1) λ_ Γ2=>wp ts Γ2 λb Γ3=>b=p x/\(if b=true then wp el Γ3 λy Γ4=>y=v x/\∃ cs',cs'.length=m/\Γ4=cs'++Γ1 else ∃ cs',cs'.length=m/\Γ3=cs'++Γ1)) ∧
   QL ((xs.filter p).map v) Γ1):wp (compO m it tgt ts el) Γ QL:=by
 unfold compO
 rw [aG']
 refine h.mono λds Γ1 ⟨hds,hl,hp,hq⟩=>?_
 subst hds
 rw [if_pos (by simpa using hl)]
 have key:∀ (es:List α) (cs:Gm),(∀ d∈es,d∈xs)->cs.length=m->∃ cs',cs'.length=m/\compM tgt ts el (es.map f) (cs++Γ1)=some ((es.filter p).map v,cs'++Γ1):=by
  intro es
  induction es with
  | nil=>intro cs _ hc;exact ⟨cs,hc,rfl⟩
  | cons d es ih =>
   intro cs hm hc
   obtain ⟨u,Γ2,e1,b,Γ3,e2,hb,h3⟩:=hp d (hm d List.mem_cons_self) cs hc
   have hm':∀ d∈es,d∈xs:=λd hd=>hm d (List.mem_cons_of_mem _ hd)
   cases b with
   | false =>
    rw [if_neg Bool.false_ne_true] at h3
    obtain ⟨cs',hc',rfl⟩:=h3
    obtain ⟨cs2,hc2,e3⟩:=ih cs' hm' hc'
    refine ⟨cs2,hc2,?_⟩
    rw [List.map_cons,compM]
    unfold bnd
    simp only [e1,e2,Bool.false_eq_true,if_false]
    rw [e3,List.filter_cons,← hb]
    simp
   | true =>
    rw [if_pos rfl] at h3
    obtain ⟨x,Γ4,e4,rfl,cs',hc',rfl⟩:=h3
    obtain ⟨cs2,hc2,e3⟩:=ih cs' hm' hc'
    refine ⟨cs2,hc2,?_⟩
    rw [List.map_cons,compM]
    unfold bnd
    simp only [e1,e2,if_true,e4]
    rw [e3,List.filter_cons,← hb]
    rfl
 obtain ⟨cs',hc',e⟩:=key xs (List.replicate m none) (λ_ h=>h) (by simp)
 refine ⟨_,_,?_,hq⟩
 unfold inC
 rw [e]
 simp [hc',List.drop_append]
theorem dm' {α:Type}{tgt:D->M Unit}{ts:M Bool}{el:M D}{it:M (List D)} (xs:List α) (f:α->D) (p:α->Bool) (v:α->D)
  (h:wp it Γ λds Γ1=>ds=xs.map f/\xs.length<=1000000/\(∀ x∈xs,∀ a,wp (tgt (f x)) (a::Γ1) λ_ Γ2=>wp ts Γ2 λb Γ3=>b=p x/\(if b=true then wp el Γ3 λy Γ4=>y=v x/\∃ a',Γ4=a'::Γ1 else ∃ a',Γ3=a'::Γ1)) ∧
   QL ((xs.filter p).map v) Γ1):wp (compO 1 it tgt ts el) Γ QL:=by
 refine jS' xs f p v (h.mono λds Γ1 ⟨h1,h2,h3,h4⟩=>⟨h1,h2,λx hx cs hc=>?_,h4⟩)
 obtain ⟨a,rfl⟩:=List.length_eq_one_iff.mp hc
 refine (h3 x hx a).mono λ_ Γ2 h=>h.mono λb Γ3 ⟨h5,h6⟩=>⟨h5,?_⟩
 cases b with
 | true=>simp only [if_true] at h6 ⊢;exact h6.mono λy Γ4 ⟨h7,a',h8⟩=>⟨h7,[a'],rfl,h8⟩
 | false=>simp only [Bool.false_eq_true,if_false] at h6 ⊢;obtain ⟨a',h8⟩:=h6;exact ⟨[a'],rfl,h8⟩
theorem dn' {α:Type}{tgt:D->M Unit}{ts:M Bool}{el:M D}{it:M (List D)} (xs:List α) (f:α->D) (p:α->Bool) (v:α->D)
  (h:wp it Γ λds Γ1=>ds=xs.map f/\xs.length<=1000000/\(∀ x∈xs,∀ a b,wp (tgt (f x)) (a::b::Γ1) λ_ Γ2=>wp ts Γ2 λb Γ3=>b=p x/\(if b=true then wp el Γ3 λy Γ4=>y=v x/\∃ a' b',Γ4=a'::b'::Γ1 else ∃ a' b',Γ3=a'::b'::Γ1)) ∧
   QL ((xs.filter p).map v) Γ1):wp (compO 2 it tgt ts el) Γ QL:=by
 refine jS' xs f p v (h.mono λds Γ1 ⟨h1,h2,h3,h4⟩=>⟨h1,h2,λx hx cs hc=>?_,h4⟩)
 obtain ⟨a,b,rfl⟩:∃ a b,cs=[a,b]:=by
  match cs,hc with
  | [a,b],_=>exact ⟨a,b,rfl⟩
 refine (h3 x hx a b).mono λ_ Γ2 h=>h.mono λb Γ3 ⟨h5,h6⟩=>⟨h5,?_⟩
 cases b with
 | true=>simp only [if_true] at h6 ⊢;exact h6.mono λy Γ4 ⟨h7,a',b',h8⟩=>⟨h7,[a',b'],rfl,h8⟩
 | false=>simp only [Bool.false_eq_true,if_false] at h6 ⊢;obtain ⟨a',b',h8⟩:=h6;exact ⟨[a',b'],rfl,h8⟩
theorem c5' {n ar:Nat}{body:M Fl}{ds:List D}{d:D} (hl:ds.length=ar) (h:∀ K:Fl->Gm->Prop,(∀ Γ',(∃ l,fin (ds.map .val) Γ'=some l)->K (.rt (.val d)) Γ')->(∀ Γ',d=.non->(∃ l,fin (ds.map .val) Γ'=some l)->K .nx Γ')->wp body ((ds.map .val).map some++List.replicate (n - ds.length) none) K):cvF (fnD n ar body) ds=some d:=by
 refine rH' (cR' (by simpa using hl) λK k1 k2=>?_)
 have:=h K (λΓ' ⟨l,e⟩=>k1 _ _ ⟨l,e,rfl⟩) (λΓ' hd ⟨l,e⟩=>k2 _ ⟨l,e,by rw [hd]⟩)
 simpa using this
theorem oU' {α:Type}{f:α->Bool}{xs:List α}:blsD (xs.map λx=>.bl (f x))=some (xs.map f):=by
 induction xs with
 | nil=>rfl
 | cons x xs ih=>simp only [List.map_cons,blsD,ih]
theorem ee' {α:Type}{f:α->Bool}{xs:List α}:allF [.lst (xs.map λx=>.bl (f x))]=some (.bl (xs.all f)):=by
 unfold allF
 simp only [oU']
 simp [Function.comp_def]
end
end DL
namespace DL
open PySem L2
section
variable {α:Type}{Γ:Gm}{Q:α->Gm->Prop}{QD:D->Gm->Prop}{QL:List D->Gm->Prop}{i j:Int}
theorem jT' {xs:List D} (h:SortOk xs):sortF [.lst xs]=some (sortD xs):=by
 unfold sortF
 exact if_pos h
end
end DL
namespace DL
theorem eo' {α:Type}:∀ (l m:List α),l.Nodup->(∀ x∈l,x∈m)->l.length<=m.length
 | [],m,_,_=>Nat.zero_le _
 | x::l,m,nd,h=>by
  obtain ⟨a,b,rfl⟩:=List.append_of_mem (h x List.mem_cons_self)
  rw [List.nodup_cons] at nd
  have:=eo' l (a++b) nd.2 (λy hy=>by
   have:=h y (List.mem_cons_of_mem _ hy)
   rcases List.mem_append.mp this with z | z
   ·exact (List.mem_append_left _ z)
   ·rcases List.mem_cons.mp z with z | z
    ·subst z;exact absurd hy nd.1
    ·exact (List.mem_append_right _ z))
  simp at this ⊢
  omega
end DL
namespace DL
theorem pp' {n ar:Nat}{body:M Fl}{ds:List D}{os:List D} (hl:ds.length=ar) (h:∀ K:Fl->Gm->Prop,(∀ Γ',(∃ l,fin (ds.map .val) Γ'=some l)->K (.rt (.own os)) Γ')->wp body ((ds.map .val).map some++List.replicate (n - ds.length) none) K):coF (fnD n ar body) ds=some os:=by
 have w:wpF (fnD n ar body) (ds.map .val) λr _=>r=.own os:=cR' (by simpa using hl) λK k1 _=>by
  have:=h K (λΓ' ⟨l,e⟩=>k1 _ _ ⟨l,e,rfl⟩)
  simpa using this
 obtain ⟨r,rs',e,rfl⟩:=w
 unfold coF
 rw [e]
end DL
namespace DL
section
variable {Γ:Gm}{QS:Fl->Gm->Prop}{QL:List D->Gm->Prop}
theorem nK' {c:M Bool}{b:M Fl} (J:Nat->Gm->Prop)
  (hs:∀ (m:Nat) (Γ:Gm),J m Γ->wp c Γ λk Γ1=>if k=true then ∃ m',m=m'+1/\∀ K:Fl->Gm->Prop,(∀ Γ2,J m' Γ2->K .nx Γ2)->(∀ Γ2,J m' Γ2->K .ct Γ2)->(∀ Γ2,QS .nx Γ2->K .bk Γ2)->(∀ r Γ2,QS (.rt r) Γ2->K (.rt r) Γ2)->wp b Γ1 K else QS .nx Γ1) :
  ∀ (n m:Nat) (Γ:Gm),m < n->J m Γ->wp (whlS n c b) Γ QS:=by
 intro n
 induction n with
 | zero=>intro m Γ h;omega
 | succ n ih =>
  intro m Γ h j
  rw [whlS,aG']
  refine (hs m Γ j).mono λk Γ1 q=>?_
  cases k with
  | false=>rw [if_neg Bool.false_ne_true] at q ⊢;rw [dG'];exact q
  | true =>
   rw [if_pos rfl] at q ⊢
   obtain ⟨m',rfl,q⟩:=q
   rw [aG']
   refine q _ (λΓ2 j2=>?_) (λΓ2 j2=>?_) (λΓ2 z=>?_) λr Γ2 z=>?_
   ·exact ih m' Γ2 (by omega) j2
   ·exact ih m' Γ2 (by omega) j2
   ·exact (dG').mpr z
   ·exact (dG').mpr z
end
end DL
namespace Own
open PySem PySem.Spec PyProof.Rows L2 DL
noncomputable def gX':M Fl :=
 (retS (andV (un1 (isiF .iT) (nm 0)) (notV (un1 (isiF .bT) (nm 0)))))
noncomputable def a7':List R->Option (R×List R):=fnD 1 1 gX'
noncomputable def er':M Fl :=
 (seqS (ifS (orT (notT (tst (un1 (isiF .tT) (nm 1)))) (tst (op2 (eqF true) (fn1 lenF (consA (nm 1) nilA)) (ret (.int 2)))))
  (retS (ret (.bl false))) (ret .nx))
  (retS (andV (fn1 (cvF a7') (consA (op2 ixF (nm 1) (ret (.int 0))) nilA)) (andV (fn1 (cvF a7') (consA (op2 ixF (nm 1) (ret (.int 1))) nilA)) (chn3 leI ltI ltI (ret (.int 0)) (op2 ixF (nm 1) (ret (.int 0))) (op2 ixF (nm 1) (ret (.int 1))) (nm 0))))))
noncomputable def dH':List R->Option (R×List R):=fnD 2 2 er'
noncomputable def c6':M Fl :=
 (ifS (notT (tst (chn leI ltI (ret (.int 0)) (nm 1) (op2 ixF (nm 0) (ret (.int 0))))))
  (λ_=>none) (ret .nx))
noncomputable def a2':List R->Option (R×List R):=fnD 2 2 c6'
noncomputable def c7':M Fl :=
 (seqS (dropS (fn1 (cvF a2') (consA (nm 0) (consA (nm 1) nilA))))
  (retO (fn1 sortF (consA (frz (compO 1 (itS (op2 ixF (nm 0) (ret (.int 1)))) (tgN 0) (tst (op2 (inF false) (nm 2) (nm 0))) (ifV (tst (op2 (eqF false) (op2 ixF (nm 0) (ret (.int 0))) (nm 2))) (op2 ixF (nm 0) (ret (.int 1))) (op2 ixF (nm 0) (ret (.int 0)))))) nilA))))
noncomputable def bv':List R->Option (R×List R):=fnD 2 2 c7'
noncomputable def eY' (g:List R->Option (R×List R)):M Fl :=
 (seqS (ifS (tst (op2 (eqF false) (nm 2) (nm 3)))
  (retO (lstA (consA (nm 2) nilA))) (ret .nx))
  (seqS (forS (itS (frz (fn1 (coF bv') (consA (nm 0) (consA (nm 2) nilA))))) (tgN 4)
  (ifS (tst (op2 (eqF true) (nm 4) (nm 1)))
  (seqS (setV 5 (altM (frz (fn1 (coF g) (consA (nm 0) (consA (nm 2) (consA (nm 4) (consA (nm 3) nilA)))))) (fn1 (cvF g) (consA (nm 0) (consA (nm 2) (consA (nm 4) (consA (nm 3) nilA)))))))
  (ifS (tst (op2 (isNF true) (nm 5) (ret .non)))
  (retO (op2 catF (frz (lstA (consA (nm 2) nilA))) (nm 5))) (ret .nx))) (ret .nx)))
  (retS (ret .non))))
noncomputable def cf':Nat->List R->Option (R×List R)
 | 0=>λ_=>none
 | k+1=>fnD 6 4 (eY' (cf' k))
noncomputable def dM':M Fl :=
 (seqS (dropS (fn1 (cvF a2') (consA (nm 0) (consA (nm 1) nilA))))
  (seqS (dropS (fn1 (cvF a2') (consA (nm 0) (consA (nm 2) nilA))))
  (altM (retO (fn1 (coF (cf' 21)) (consA (nm 0) (consA (ret .non) (consA (nm 1) (consA (nm 2) nilA)))))) (retS (fn1 (cvF (cf' 21)) (consA (nm 0) (consA (ret .non) (consA (nm 1) (consA (nm 2) nilA)))))))))
noncomputable def be':List R->Option (R×List R):=fnD 3 3 dM'
noncomputable def eZ':M Fl :=
 (seqS (forS (fn1 enumI (consA (nm 1) nilA)) (tgTup 2 (tgCons (tgN 2) (tgCons (tgN 3) tgNil)))
  (ifS (tst (op2 (isNF true) (altM (frz (fn1 (coF be') (consA (tupA (consA (nm 0) (consA (sl3 slF (nm 1) (ret none) (prt (nm 2))) nilA))) (consA (op2 ixF (nm 3) (ret (.int 0))) (consA (op2 ixF (nm 3) (ret (.int 1))) nilA))))) (fn1 (cvF be') (consA (tupA (consA (nm 0) (consA (sl3 slF (nm 1) (ret none) (prt (nm 2))) nilA))) (consA (op2 ixF (nm 3) (ret (.int 0))) (consA (op2 ixF (nm 3) (ret (.int 1))) nilA))))) (ret .non)))
  (retS (ret (.bl true))) (ret .nx)))
  (retS (ret (.bl false))))
noncomputable def dU':List R->Option (R×List R):=fnD 4 2 eZ'
noncomputable def e0':M Fl :=
 (seqS (ifS (orT (notT (tst (un1 (isiF .tT) (nm 0)))) (tst (op2 (eqF true) (fn1 lenF (consA (nm 0) nilA)) (ret (.int 2)))))
  (retS (ret (.bl false))) (ret .nx))
  (seqS (setV 1 (op2 ixF (nm 0) (ret (.int 0))))
  (seqS (setV 2 (op2 ixF (nm 0) (ret (.int 1))))
  (seqS (ifS (orT (notT (tst (fn1 (cvF a7') (consA (nm 1) nilA)))) (orT (notT (tst (chn leI leI (ret (.int 1)) (nm 1) (ret (.int 8))))) (notT (tst (un1 (isiF .tT) (nm 2))))))
  (retS (ret (.bl false))) (ret .nx))
  (seqS (ifS (notT (tst (fn1 allF (consA (frz (compO 1 (itS (nm 2)) (tgN 0) (ret true) (fn1 (cvF dH') (consA (nm 2) (consA (nm 0) nilA))))) nilA))))
  (retS (ret (.bl false))) (ret .nx))
  (retS (andV (op2 (eqF false) (frz (fn1 lstF (consA (nm 2) nilA))) (frz (fn1 setTF (consA (nm 2) nilA)))) (notV (fn1 (cvF dU') (consA (nm 1) (consA (nm 2) nilA)))))))))))
noncomputable def cg':List R->Option (R×List R):=fnD 3 1 e0'
noncomputable def ew':M Fl :=
 (seqS (ifS (tst (op2 geI (nm 0) (op2 powI (ret (.int 10)) (ret (.int 18)))))
  (retS (nm 0)) (ret .nx))
  (seqS (setV 2 (op2 modI (op2 addF (op2 addF (op2 mulI (op2 modI (nm 0) (ret (.int 998244353))) (ret (.int 40692))) (op2 mulI (nm 1) (ret (.int 69621)))) (ret (.int 1009))) (ret (.int 2147483399))))
  (seqS (setV 3 (op2 modI (op2 addF (op2 addF (op2 mulI (nm 2) (nm 2)) (op2 mulI (nm 1) (ret (.int 48271)))) (op2 modI (nm 0) (ret (.int 131071)))) (ret (.int 2147483647))))
  (seqS (setV 4 (op2 modI (op2 addF (op2 addF (op2 mulI (nm 3) (nm 3)) (op2 mulI (nm 2) (ret (.int 17)))) (ret (.int 3))) (ret (.int 2147483629))))
  (retS (op2 addF (op2 mulI (op2 addF (op2 mulI (nm 2) (ret (.int 2147483647))) (nm 3)) (ret (.int 2147483629))) (nm 4)))))))
noncomputable def cG':List R->Option (R×List R):=fnD 5 2 ew'
noncomputable def fy':M Fl :=
 (seqS (setO 1 (fn1 lstF (consA (sl3 slF (nm 0) (ret none) (prt (ret (.int 12)))) nilA)))
  (seqS (forS (fn1 enumI (consA (sl3 slF (nm 0) (prt (ret (.int 12))) (prt (ret (.int 63)))) nilA)) (tgTup 2 (tgCons (tgN 2) (tgCons (tgN 3) tgNil)))
  (stS 1 (op2 modI (nm 2) (ret (.int 12))) (op2 addF (atN 1 (op2 modI (nm 2) (ret (.int 12)))) (nm 3))))
  (retO (lstA (consA (nm 1) (consA (ret (.int 0)) (consA (ret (.int 0)) nilA)))))))
noncomputable def dI':List R->Option (R×List R):=fnD 4 1 fy'
noncomputable def e2':M Fl :=
 (seqS (ifS (tst (op2 ltI (atN 0 (ret (.int 2))) (nm 1)))
  (seqS (setV 2 (atN 0 (ret (.int 1))))
  (seqS (setV 3 (op2 mulI (ret (.int 11)) (nm 2)))
  (seqS (ifS (tst (op2 ltI (nm 2) (fn1 lenF (consA (atN 0 (ret (.int 0))) nilA))))
  (setV 3 (op2 ixF (atN 0 (ret (.int 0))) (nm 2))) (ifS (tst (op2 (eqF true) (atN 0 (ret (.int 0))) (frz (lstA nilA))))
  (setV 3 (op2 modI (op2 ixF (atN 0 (ret (.int 0))) (op2 modI (op2 addF (op2 mulI (nm 2) (ret (.int 7))) (ret (.int 1))) (fn1 lenF (consA (atN 0 (ret (.int 0))) nilA)))) (op2 addF (op2 powI (ret (.int 10)) (ret (.int 17))) (op2 mulI (ret (.int 3)) (nm 2))))) (ret .nx)))
  (seqS (stS 0 (ret (.int 1)) (op2 addF (nm 2) (ret (.int 1))))
  (stS 0 (ret (.int 2)) (fn1 (cvF cG') (consA (nm 3) (consA (nm 2) nilA)))))))) (ret .nx))
  (seqS (setV 4 (op2 modI (atN 0 (ret (.int 2))) (nm 1)))
  (seqS (stS 0 (ret (.int 2)) (op2 divI (atN 0 (ret (.int 2))) (nm 1)))
  (retS (nm 4)))))
noncomputable def ak':List R->Option (R×List R):=fnD 5 2 e2'
noncomputable def bP' (g:List R->Option (R×List R)):M Fl :=
 (seqS (ifS (orT (tst (op2 (isNF false) (nm 1) (ret .non))) (tst (un1 (isiF .bT) (nm 1))))
  (retS (andV (op2 (eqF false) (un1 (isiF .bT) (nm 0)) (un1 (isiF .bT) (nm 1))) (op2 (eqF false) (nm 0) (nm 1)))) (ret .nx))
  (seqS (ifS (tst (un1 (isiF .sT) (nm 1)))
  (retS (andV (un1 (isiF .sT) (nm 0)) (op2 (eqF false) (nm 0) (nm 1)))) (ret .nx))
  (seqS (ifS (tst (un1 (isiF .iT) (nm 1)))
  (retS (andV (un1 (isiF .iT) (nm 0)) (andV (notV (un1 (isiF .bT) (nm 0))) (op2 (eqF false) (nm 0) (nm 1))))) (ret .nx))
  (seqS (ifS (orT (tst (op2 (eqF true) (un1 (isiF .tT) (nm 1)) (un1 (isiF .tT) (nm 0)))) (tst (op2 (eqF true) (un1 (isiF .lT) (nm 1)) (un1 (isiF .lT) (nm 0)))))
  (retS (ret (.bl false))) (ret .nx))
  (retS (andV (op2 (eqF false) (fn1 lenF (consA (nm 0) nilA)) (fn1 lenF (consA (nm 1) nilA))) (fn1 allF (consA (frz (compO 2 (fn1 zipI (consA (nm 0) (consA (nm 1) nilA))) (tgTup 2 (tgCons (tgN 0) (tgCons (tgN 1) tgNil))) (ret true) (fn1 (cvF g) (consA (nm 0) (consA (nm 1) nilA))))) nilA))))))))
noncomputable def bf':Nat->List R->Option (R×List R)
 | 0=>λ_=>none
 | k+1=>fnD 2 2 (bP' (bf' k))
noncomputable def ey':M Fl :=
 (retS (andV (un1 (isiF .iT) (nm 0)) (andV (notV (un1 (isiF .bT) (nm 0))) (chn leI ltI (ret (.int 0)) (nm 0) (nm 1)))))
noncomputable def b3':List R->Option (R×List R):=fnD 2 2 ey'
noncomputable def ez':M Fl :=
 (seqS (setO 2 (lstA nilA))
  (seqS (forS (fn1 rngI1 (consA (nm 1) nilA)) (tgN 3)
  (insS 2 (consA (cbV 0 ak' (consA (op2 addF (nm 3) (ret (.int 1))) nilA)) (consA (nm 3) nilA))))
  (retS (nm 2))))
noncomputable def dy':List R->Option (R×List R):=fnD 4 2 ez'
noncomputable def fz':M Fl :=
 (seqS (setV 2 (cbV 0 ak' (consA (ret (.int 4)) nilA)))
  (seqS (setV 3 (op2 addF (ret (.int 1)) (cbV 0 ak' (consA (nm 1) nilA))))
  (seqS (setV 4 (cbV 0 dy' (consA (nm 3) nilA)))
  (seqS (setO 5 (lstA nilA))
  (seqS (forS (fn1 rngI2 (consA (ret (.int 1)) (consA (nm 3) nilA))) (tgN 6)
  (ifS (tst (op2 geI (cbV 0 ak' (consA (ret (.int 6)) nilA)) (nm 2)))
  (seqS (setV 7 (tupA (consA (op2 ixF (nm 4) (nm 6)) (consA (op2 ixF (nm 4) (cbV 0 ak' (consA (nm 6) nilA))) nilA))))
  (appS 5 (tupA (consA (fn1 minTF (consA (nm 7) nilA)) (consA (fn1 maxTF (consA (nm 7) nilA)) nilA))))) (ret .nx)))
  (retS (tupA (consA (nm 3) (consA (fn1 tupF (consA (frz (fn1 sortF (consA (nm 5) nilA))) nilA)) nilA)))))))))
noncomputable def dJ':List R->Option (R×List R):=fnD 8 2 fz'
noncomputable def e4':M Fl :=
 (seqS (setV 2 (frz (op2 catF (frz (compO 2 (itS (op2 ixF (nm 0) (ret (.int 1)))) (tgTup 2 (tgCons (tgN 0) (tgCons (tgN 1) tgNil))) (tst (op2 (eqF false) (nm 0) (nm 3))) (nm 1))) (frz (compO 2 (itS (op2 ixF (nm 0) (ret (.int 1)))) (tgTup 2 (tgCons (tgN 0) (tgCons (tgN 1) tgNil))) (tst (op2 (eqF false) (nm 1) (nm 3))) (nm 0))))))
  (retO (fn1 sortF (consA (nm 2) nilA))))
noncomputable def dV':List R->Option (R×List R):=fnD 3 2 e4'
noncomputable def dN':M Fl :=
 (seqS (setK 3 (dlit1 (nm 1) (frz (lstA (consA (nm 1) nilA)))))
  (seqS (setO 4 (lstA (consA (nm 1) nilA)))
  (seqS (whlS 100 (tst (cmpN true 4 (frz (lstA nilA))))
  (seqS (setV 5 (popV 4))
  (forS (itS (frz (fn1 (coF dV') (consA (nm 0) (consA (nm 5) nilA))))) (tgN 6)
  (ifS (andT (tst (op2 (eqF true) (nm 6) (nm 2))) (inK true 3 (nm 6)))
  (seqS (putK' 3 (nm 6) (frz (op2 catF (getK 3 (nm 5)) (frz (lstA (consA (nm 6) nilA))))))
  (appS 4 (nm 6))) (ret .nx)))))
  (retK 3))))
noncomputable def bZ':List R->Option (R×List R):=fnD 7 3 dN'
noncomputable def ch':M Fl :=
 (seqS (setV 2 (frz (fn1 lstF (consA (nm 1) nilA))))
  (seqS (setV 3 (un1 negI (ret (.int 1))))
  (seqS (whlS 100 (tst (op2 (eqF true) (nm 3) (fn1 lenF (consA (nm 2) nilA))))
  (seqS (setV 3 (fn1 lenF (consA (nm 2) nilA)))
  (seqS (setV 4 (frz (op2 catF (frz (compO 2 (itS (nm 2)) (tgTup 2 (tgCons (tgN 0) (tgCons (tgN 1) tgNil))) (ret true) (nm 0))) (frz (compO 2 (itS (nm 2)) (tgTup 2 (tgCons (tgN 0) (tgCons (tgN 1) tgNil))) (ret true) (nm 1))))))
  (setV 2 (frz (compO 1 (itS (nm 2)) (tgN 0) (andT (tst (op2 gtI (cntV 5 (consA (op2 ixF (nm 0) (ret (.int 0))) nilA)) (ret (.int 1)))) (tst (op2 gtI (cntV 5 (consA (op2 ixF (nm 0) (ret (.int 1))) nilA)) (ret (.int 1))))) (nm 0)))))))
  (retS (op2 (eqF false) (nm 2) (frz (lstA nilA)))))))
noncomputable def bw':List R->Option (R×List R):=fnD 5 2 ch'
noncomputable def ef':M Fl :=
 (seqS (ifS (orT (notT (tst (un1 (isiF .tT) (nm 0)))) (orT (tst (op2 (eqF true) (fn1 lenF (consA (nm 0) nilA)) (ret (.int 2)))) (orT (notT (tst (fn1 (cvF b3') (consA (op2 ixF (nm 0) (ret (.int 0))) (consA (ret (.int 9)) nilA))))) (tst (op2 (eqF false) (op2 ixF (nm 0) (ret (.int 0))) (ret (.int 0)))))))
  (retS (ret (.bl false))) (ret .nx))
  (seqS (asgS (nm 0) (tgTup 2 (tgCons (tgN 1) (tgCons (tgN 2) tgNil))))
  (seqS (ifS (notT (tst (un1 (isiF .tT) (nm 2))))
  (retS (ret (.bl false))) (ret .nx))
  (seqS (forS (itS (nm 2)) (tgN 3)
  (seqS (ifS (orT (notT (tst (un1 (isiF .tT) (nm 3)))) (orT (tst (op2 (eqF true) (fn1 lenF (consA (nm 3) nilA)) (ret (.int 2)))) (notT (tst (fn1 allF (consA (frz (compO 1 (itS (nm 3)) (tgN 0) (ret true) (fn1 (cvF b3') (consA (nm 0) (consA (nm 2) nilA))))) nilA))))))
  (retS (ret (.bl false))) (ret .nx))
  (ifS (tst (op2 geI (op2 ixF (nm 3) (ret (.int 0))) (op2 ixF (nm 3) (ret (.int 1)))))
  (retS (ret (.bl false))) (ret .nx))))
  (retS (andV (op2 (eqF false) (frz (fn1 lstF (consA (nm 2) nilA))) (frz (fn1 setTF (consA (nm 2) nilA)))) (fn1 (cvF bw') (consA (nm 1) (consA (nm 2) nilA)))))))))
noncomputable def ci':List R->Option (R×List R):=fnD 4 1 ef'
noncomputable def c8':M Fl :=
 (seqS (setV 1 (op2 addF (ret (.int 1)) (cbV 0 ak' (consA (ret (.int 6)) nilA))))
  (seqS (setV 2 (op2 addF (ret (.int 1)) (cbV 0 ak' (consA (ret (.int 8)) nilA))))
  (seqS (setO 3 (lstA nilA))
  (seqS (forS (fn1 rngI1 (consA (nm 2) nilA)) (tgN 4)
  (forS (fn1 rngI2 (consA (op2 addF (nm 4) (ret (.int 1))) (consA (nm 2) nilA))) (tgN 5)
  (ifS (tst (op2 ltI (cbV 0 ak' (consA (ret (.int 6)) nilA)) (nm 1)))
  (appS 3 (tupA (consA (nm 4) (consA (nm 5) nilA)))) (ret .nx))))
  (retS (tupA (consA (nm 2) (consA (fn1 tupF (consA (nm 3) nilA)) nilA))))))))
noncomputable def ca':List R->Option (R×List R):=fnD 6 1 c8'
noncomputable def do':M Fl :=
 (seqS (setV 2 (op2 ixF (nm 1) (ret (.int 0))))
  (seqS (setV 3 (cbV 0 ak' (consA (ret (.int 12)) nilA)))
  (seqS (setV 4 (cbV 0 ak' (consA (nm 2) nilA)))
  (seqS (setV 5 (cbV 0 ak' (consA (nm 2) nilA)))
  (seqS (setV 6 (frz (lstA (consA (tupA (consA (nm 5) (consA (nm 4) nilA))) (consA (tupA (consA (nm 4) nilA)) (consA (tupA (consA (nm 4) (consA (nm 5) (consA (nm 4) nilA)))) (consA (frz (lstA (consA (nm 4) (consA (nm 5) nilA)))) (consA (tupA (consA (nm 4) (consA (nm 2) nilA))) (consA (tupA (consA (un1 negI (ret (.int 1))) (consA (nm 4) nilA))) (consA (tupA (consA (ret (.bl false)) (consA (nm 5) nilA))) (consA (tupA (consA (nm 4) (consA (ret (.str "1")) nilA))) nilA)))))))))))
  (retS (op2 ixF (frz (op2 catF (nm 6) (frz (lstA (consA (ret .non) (consA (nm 4) (consA (tupA (consA (ret .non) (consA (nm 5) nilA))) (consA (tupA (consA (tupA (consA (nm 4) (consA (nm 5) nilA))) nilA)) nilA)))))))) (nm 3))))))))
noncomputable def cp':List R->Option (R×List R):=fnD 7 2 do'
noncomputable def cK':M Fl :=
 (seqS (asgS (nm 2) (tgTup 2 (tgCons (tgN 3) (tgCons (tgN 4) tgNil))))
  (seqS (setV 5 (cbV 0 ak' (consA (op2 addF (fn1 lenF (consA (nm 4) nilA)) (ret (.int 1))) nilA)))
  (seqS (ifS (tst (op2 (eqF false) (nm 1) (ret (.int 0))))
  (seqS (setV 6 (cbV 0 ak' (consA (nm 3) nilA)))
  (seqS (setV 7 (cbV 0 ak' (consA (nm 3) nilA)))
  (seqS (setV 8 (op2 addF (op2 addF (altM (sl3 slF (nm 4) (ret none) (prt (nm 5))) (sl3 slWF (nm 4) (ret none) (prt (nm 5)))) (tupA (consA (tupA (consA (fn1 minF (consA (nm 6) (consA (nm 7) nilA))) (consA (fn1 maxF (consA (nm 6) (consA (nm 7) nilA))) nilA))) nilA))) (altM (sl3 slF (nm 4) (prt (nm 5)) (ret none)) (sl3 slWF (nm 4) (prt (nm 5)) (ret none)))))
  (retS (ifV (tst (op2 (eqF false) (cbV 0 ak' (consA (ret (.int 4)) nilA)) (ret (.int 0)))) (nm 8) (fn1 tupF (consA (frz (fn1 sortTF (consA (nm 8) nilA))) nilA))))))) (ret .nx))
  (seqS (ifS (tst (op2 (eqF false) (nm 1) (ret (.int 1))))
  (retS (op2 addF (op2 addF (altM (sl3 slF (nm 4) (ret none) (prt (nm 5))) (sl3 slWF (nm 4) (ret none) (prt (nm 5)))) (tupA (consA (cbV 0 cp' (consA (nm 2) nilA)) nilA))) (altM (sl3 slF (nm 4) (prt (op2 addF (nm 5) (cbV 0 ak' (consA (ret (.int 2)) nilA)))) (ret none)) (sl3 slWF (nm 4) (prt (op2 addF (nm 5) (cbV 0 ak' (consA (ret (.int 2)) nilA)))) (ret none))))) (ret .nx))
  (seqS (ifS (tst (op2 (eqF false) (nm 1) (ret (.int 2))))
  (retS (op2 ixF (frz (lstA (consA (op2 rvTF (nm 4) (un1 negI (ret (.int 1)))) (consA (op2 addF (altM (sl3 slF (nm 4) (prt (nm 5)) (ret none)) (sl3 slWF (nm 4) (prt (nm 5)) (ret none))) (altM (sl3 slF (nm 4) (ret none) (prt (nm 5))) (sl3 slWF (nm 4) (ret none) (prt (nm 5))))) (consA (op2 addF (nm 4) (altM (sl3 slF (nm 4) (prt (un1 negI (ret (.int 1)))) (ret none)) (sl3 slWF (nm 4) (prt (un1 negI (ret (.int 1)))) (ret none)))) nilA))))) (cbV 0 ak' (consA (ret (.int 3)) nilA)))) (ret .nx))
  (seqS (ifS (tst (op2 (eqF false) (nm 1) (ret (.int 3))))
  (retS (op2 addF (altM (sl3 slF (nm 4) (ret none) (prt (nm 5))) (sl3 slWF (nm 4) (ret none) (prt (nm 5)))) (altM (sl3 slF (nm 4) (prt (op2 addF (nm 5) (ret (.int 1)))) (ret none)) (sl3 slWF (nm 4) (prt (op2 addF (nm 5) (ret (.int 1)))) (ret none))))) (ret .nx))
  (retS (op2 ixF (frz (lstA (consA (frz (fn1 lstF (consA (nm 4) nilA))) (consA (ret .non) (consA (tupA (consA (nm 4) nilA)) (consA (ret (.int 0)) (consA (ret (.str "0-1")) (consA (op2 addF (nm 4) (tupA (consA (tupA nilA) nilA))) nilA)))))))) (cbV 0 ak' (consA (ret (.int 6)) nilA))))))))))
noncomputable def bQ':List R->Option (R×List R):=fnD 9 3 cK'
noncomputable def e5':M Fl :=
 (seqS (setV 2 (cbV 0 ak' (consA (ret (.int 8)) nilA)))
  (seqS (asgS (nm 1) (tgTup 2 (tgCons (tgN 3) (tgCons (tgN 4) tgNil))))
  (seqS (ifS (tst (op2 ltI (nm 2) (ret (.int 5))))
  (retS (tupA (consA (nm 3) (consA (cbV 0 bQ' (consA (nm 2) (consA (nm 1) nilA))) nilA)))) (ret .nx))
  (seqS (ifS (tst (op2 (eqF false) (nm 2) (ret (.int 5))))
  (seqS (setV 5 (frz (lstA (consA (ret (.int 0)) (consA (ret (.int 9)) (consA (op2 subI (nm 3) (ret (.int 1))) (consA (op2 addF (nm 3) (ret (.int 1))) (consA (un1 negI (ret (.int 1))) (consA (ret (.bl true)) (consA (ret (.str "3")) (consA (ret .non) (consA (tupA (consA (nm 3) nilA)) (consA (ret (.int 8)) nilA)))))))))))))
  (retS (tupA (consA (op2 ixF (nm 5) (cbV 0 ak' (consA (ret (.int 10)) nilA))) (consA (nm 4) nilA))))) (ret .nx))
  (seqS (ifS (tst (op2 (eqF false) (nm 2) (ret (.int 6))))
  (retS (op2 ixF (frz (lstA (consA (tupA (consA (nm 3) nilA)) (consA (tupA (consA (nm 3) (consA (nm 4) (consA (nm 4) nilA)))) (consA (frz (lstA (consA (nm 3) (consA (nm 4) nilA)))) (consA (nm 4) (consA (nm 3) nilA))))))) (cbV 0 ak' (consA (ret (.int 5)) nilA)))) (ret .nx))
  (seqS (setK 6 (fn1 (ckF bZ') (consA (nm 1) (consA (cbV 0 ak' (consA (nm 3) nilA)) (consA (ret .non) nilA)))))
  (seqS (setV 7 (frz (compO 1 (itS (frz (sortN 6))) (tgN 0) (tst (op2 gtI (fn1 lenF (consA (getK 7 (nm 0)) nilA)) (ret (.int 2)))) (getK 7 (nm 0)))))
  (seqS (ifS (tst (op2 (eqF false) (nm 7) (frz (lstA nilA))))
  (retS (nm 1)) (ret .nx))
  (seqS (setV 8 (op2 ixF (nm 7) (cbV 0 ak' (consA (fn1 lenF (consA (nm 7) nilA)) nilA))))
  (seqS (setV 9 (tupA (consA (fn1 minF (consA (op2 ixF (nm 8) (ret (.int 0))) (consA (op2 ixF (nm 8) (un1 negI (ret (.int 1)))) nilA))) (consA (fn1 maxF (consA (op2 ixF (nm 8) (ret (.int 0))) (consA (op2 ixF (nm 8) (un1 negI (ret (.int 1)))) nilA))) nilA))))
  (retS (tupA (consA (nm 3) (consA (fn1 tupF (consA (frz (fn1 sortTF (consA (op2 addF (nm 4) (tupA (consA (nm 9) nilA))) nilA))) nilA)) nilA))))))))))))))
noncomputable def dW':List R->Option (R×List R):=fnD 10 2 e5'
noncomputable def dp':M Fl :=
 (seqS (setV 2 (cbV 0 ak' (consA (ret (.int 12)) nilA)))
  (seqS (asgS (nm 1) (tgTup 2 (tgCons (tgN 3) (tgCons (tgN 4) tgNil))))
  (seqS (setV 5 (op2 ixF (frz (lstA (consA (ret (.bl true)) (consA (ret (.bl false)) (consA (ret .non) (consA (ret (.str "")) (consA (ret (.str "1")) (consA (frz (lstA nilA)) (consA (frz (lstA (consA (ret (.int 1)) nilA))) (consA (tupA nilA) (consA (tupA (consA (ret (.int 1)) nilA)) (consA (op2 powI (ret (.int 10)) (ret (.int 30))) (consA (un1 negI (ret (.int 1))) (consA (nm 3) nilA)))))))))))))) (nm 2)))
  (seqS (setV 6 (cbV 0 ak' (consA (op2 addF (fn1 lenF (consA (nm 4) nilA)) (ret (.int 1))) nilA)))
  (seqS (ifS (tst (op2 (eqF false) (nm 6) (fn1 lenF (consA (nm 4) nilA))))
  (retS (tupA (consA (nm 5) (consA (nm 4) nilA)))) (ret .nx))
  (seqS (asgS (op2 ixF (nm 4) (nm 6)) (tgTup 2 (tgCons (tgN 7) (tgCons (tgN 8) tgNil))))
  (seqS (setV 9 (op2 ixF (frz (lstA (consA (tupA (consA (nm 7) (consA (nm 5) nilA))) (consA (tupA (consA (nm 5) (consA (nm 8) nilA))) nilA)))) (cbV 0 ak' (consA (ret (.int 2)) nilA))))
  (retS (tupA (consA (nm 3) (consA (op2 addF (op2 addF (altM (sl3 slF (nm 4) (ret none) (prt (nm 6))) (sl3 slWF (nm 4) (ret none) (prt (nm 6)))) (tupA (consA (nm 9) nilA))) (altM (sl3 slF (nm 4) (prt (op2 addF (nm 6) (ret (.int 1)))) (ret none)) (sl3 slWF (nm 4) (prt (op2 addF (nm 6) (ret (.int 1)))) (ret none)))) nilA)))))))))))
noncomputable def cq':List R->Option (R×List R):=fnD 10 2 dp'
noncomputable def l3':M Fl :=
 (seqS (setO 1 (fn1 (coF dI') (consA (nm 0) nilA)))
  (seqS (setV 2 (frz (lstA (consA (ret .non) (consA (tupA nilA) (consA (tupA (consA (ret (.int 1)) nilA)) (consA (tupA (consA (ret (.int 1)) (consA (tupA nilA) nilA))) (consA (tupA (consA (ret (.int 8)) (consA (tupA nilA) nilA))) (consA (tupA (consA (ret (.int 0)) (consA (tupA nilA) nilA))) (consA (tupA (consA (ret (.int 9)) (consA (tupA nilA) nilA))) (consA (ret (.str "web")) (consA (ret (.int 0)) (consA (frz (lstA nilA)) (consA (tupA (consA (ret (.int 1)) (consA (tupA (consA (tupA (consA (ret (.int 0)) (consA (ret (.int 0)) nilA))) nilA)) nilA))) (consA (tupA (consA (ret (.bl true)) (consA (tupA nilA) nilA))) nilA)))))))))))))))
  (seqS (forS (fn1 rngI1 (consA (ret (.int 5)) nilA)) (tgN 3)
  (seqS (setV 4 (cbV 1 dJ' (consA (ret (.int 8)) nilA)))
  (seqS (ifS (tst (op2 (isBF true) (fn1 (cvF cg') (consA (nm 4) nilA)) (ret (.bl true))))
  (retS (ret (.bl false))) (ret .nx))
  (setV 2 (frz (op2 catF (frz (op2 catF (nm 2) (frz (lstA (consA (nm 4) nilA))))) (frz (compO 1 (fn1 rngI1 (consA (ret (.int 8)) nilA)) (tgN 0) (ret true) (cbV 2 dW' (consA (nm 5) nilA))))))))))
  (seqS (forS (fn1 rngI1 (consA (ret (.int 4)) nilA)) (tgN 3)
  (seqS (setV 4 (cbV 1 dJ' (consA (ret (.int 8)) nilA)))
  (setV 2 (frz (op2 catF (frz (op2 catF (nm 2) (frz (lstA (consA (cbV 1 ca' nilA) nilA))))) (frz (compO 1 (fn1 rngI1 (consA (ret (.int 6)) nilA)) (tgN 0) (ret true) (cbV 2 cq' (consA (nm 5) nilA)))))))))
  (seqS (forS (itS (nm 2)) (tgN 5)
  (seqS (setV 6 (fn1 reprG (consA (nm 5) nilA)))
  (ifS (orT (notT (tst (fn1 (cvF (bf' 8)) (consA (fn1 (cvF cg') (consA (nm 5) nilA)) (consA (fn1 (cvF ci') (consA (nm 5) nilA)) nilA))))) (tst (op2 (eqF true) (fn1 reprG (consA (nm 5) nilA)) (nm 6))))
  (retS (ret (.bl false))) (ret .nx))))
  (retS (ret (.bl true))))))))
noncomputable def e6':List R->Option (R×List R):=fnD 7 1 l3'
end Own
namespace Own
open PySem PySem.Spec PyProof.Rows L2 DL
theorem nk {N:List Str} (h:decide N.Nodup=true:=by kernel_rfl):N.Nodup:=of_decide_eq_true h
theorem en (i:Nat){X:Cx}{B:BB}{x:Str}{pos:Pos} (hN:X.N[i]?=some x:=by rfl) (hv:Vis X.env.scope x:=by first | exact Or.inl rfl | exact Or.inr (Or.inl rfl) | exact Or.inr (Or.inr rfl)) (hd:(x == ("__debug__":Str))=false:=by decide) (hcd:(x == ("__classdict__":Str))=false:=by decide):ED X B (.Name x pos) (nm i):=pf' (pv i hN hv hd hcd)
def top (i:Nat):Stmt:=PySem.Challenge.pw_roofpost_k23_what_is_a_web.main.body.getD i (.Pass ⟨0,0,0,0⟩)
abbrev cr':Stmt:=top 4
abbrev dq':Stmt:=top 7
abbrev cT':Stmt:=top 8
abbrev ct':Stmt:=top 9
abbrev ba':Stmt:=top 10
abbrev bb':Stmt:=top 11
abbrev bp':Stmt:=top 12
abbrev cL':Stmt:=top 13
abbrev b4':Stmt:=top 15
abbrev cU':Stmt:=top 16
abbrev cu':Stmt:=top 17
abbrev bR':Stmt:=top 18
abbrev b5':Stmt:=top 19
abbrev b6':Stmt:=top 20
abbrev cV':Stmt:=top 21
abbrev cv':Stmt:=top 22
abbrev bq':Stmt:=top 23
abbrev aX':Stmt:=top 24
abbrev bG':Stmt:=top 25
abbrev bc':Stmt:=top 26
abbrev bj':Stmt:=top 27
abbrev a4':Stmt:=top 28
abbrev cw':Stmt:=top 29
abbrev bk':Stmt:=top 30
abbrev dX':Stmt:=top 31
structure Cd (P:Program) (w:World) (K:PySem.W.Frag) (mg:Str->Option Value) (base:Heap) (k:Nat) (f:Addr) (fd:FuncData) (ps:List Str) (g:List R->Option (R×List R)) (x:Str):Prop where
 G:FnOk P w K mg base CX0 k f fd ps (spD K g)
 b:Binds K fd ps []
 p:PySem.W.keepIn K (.ref f)=true
 m:mg x=some (.ref f)
section
variable {P:Program}{w:World}{K:PySem.W.Frag}{mg:Str->Option Value}{base:Heap}
theorem ky':FnScope ["thing"] ["thing"] (defScope cr'):=⟨rfl,rfl,rfl,by decide +kernel,rfl,by decide +kernel,by decide +kernel⟩
theorem kz' {f:Addr}{fd:FuncData} (F:Fun K "is_whole" "is_whole" cr' f fd) (z_isinstance:mg "isinstance"=none) (z_bool:mg "bool"=none) (z_int:mg "int"=none):FnOk P w K mg base CX0 2 f fd ["thing"] (spD K a7') :=
 aW' (k:=1) (N:=["thing"]) F ky' gX' (λcdv A outer s H E B hr=>aO'
  (ah' (ai' (aq' (bW' (dT' rfl z_isinstance rfl z_int (en 0)) (c0' (gG' (b2' rfl z_isinstance rfl z_bool (en 0)))))))))
theorem nL':FnScope ["thing", "many", "roads"] ["thing"] (defScope dq'):=⟨rfl,rfl,rfl,by decide +kernel,rfl,by decide +kernel,by decide +kernel⟩
theorem nM' {f:Addr}{fd:FuncData} (F:Fun K "is_web" "is_web" dq' f fd) {fa' eA'} (aJ':Cd P w K mg base 2 fa' eA' ["thing"] a7' "is_whole") {n1' mj'} (cW':Cd P w K mg base 3 n1' mj' ["many", "thing"] dH' "is_road") {ml' kL'} (cz':Cd P w K mg base 28 ml' kL' ["many", "roads"] dU' "has_ring") (z_len:mg "len"=none) (z_isinstance:mg "isinstance"=none) (z_tuple:mg "tuple"=none) (z_all:mg "all"=none) (z_sorted:mg "sorted"=none) (z_set:mg "set"=none) (z_list:mg "list"=none){t_MOST_HOUSES:Tok} (c_MOST_HOUSES:mg "MOST_HOUSES"=some (.int 8 t_MOST_HOUSES)):FnOk P w K mg base CX0 29 f fd ["thing"] (spD K cg') :=
 aW' (k:=28) (N:=["thing", "many", "roads"]) F nL' e0' (λcdv A outer s H E B hr=>aO'
  (ag' (aI' (TW.td (cH' (bC' (bu' (a8' rfl z_isinstance rfl z_tuple (en 0)))) (dA' (c1' hr (bn' rfl z_len (ab' (en 0) ac' rfl)) ad'))))
  (ah' (ai' (aq' bt'))) aA')
  (ag' (ap' (i:=1) nk (az' (en 0) ad'))
  (ag' (ap' (i:=2) nk (az' (en 0) ad'))
  (ag' (aI' (TW.td (cH' (bC' (bu' (aR' aJ'.G (hr.mono (by decide)) rfl aJ'.m aJ'.p aJ'.b (ab' (en 1) ac' rfl)))) (cH' (bC' (pS' ad' (en 1) (ed_c (v:=.int 8) (ps' rfl c_MOST_HOUSES ⟨_,rfl⟩) (λ_=>Is.int _)))) (dA' (bC' (bu' (a8' rfl z_isinstance rfl z_tuple (en 2))))))))
  (ah' (ai' (aq' bt'))) aA')
  (ag' (aI' (bC' (bu' (js' rfl rfl z_all (ab' (ar' (b1' (N':=["road", "-thing", "many", "-roads"]) (m:=1) (CompScope.of (by kernel_rfl)) rfl (bi' (en 2)) (λ_ _ _ _=>(gd_n (i:=0) (m:=1) nk)) (λ_ _ _ _=>dj') (λ_ _ _ _=>(aR' cW'.G (hr.mono (by decide)) rfl cW'.m cW'.p cW'.b (ab' (en 2) (ab' (en 0) ac' rfl) rfl))))) ac' rfl))))
  (ah' (ai' (aq' bt'))) aA')
  (ah' (ai' (aq' (bW' (em' hr (ar' (eH' rfl z_list (ab' (en 2) ac' rfl))) (ar' (f2' hr rfl z_sorted rfl z_set (ab' (en 2) ac' rfl)))) (c0' (gG' (aR' cz'.G (hr.mono (by decide)) rfl cz'.m cz'.p cz'.b (ab' (en 1) (ab' (en 2) ac' rfl) rfl))))))))))))))
theorem l4':FnScope ["many", "thing"] ["many", "thing"] (defScope cT'):=⟨rfl,rfl,rfl,by decide +kernel,rfl,by decide +kernel,by decide +kernel⟩
theorem l5' {f:Addr}{fd:FuncData} (F:Fun K "is_road" "is_road" cT' f fd) {fa' eA'} (aJ':Cd P w K mg base 2 fa' eA' ["thing"] a7' "is_whole") (z_len:mg "len"=none) (z_isinstance:mg "isinstance"=none) (z_tuple:mg "tuple"=none):FnOk P w K mg base CX0 3 f fd ["many", "thing"] (spD K dH') :=
 aW' (k:=2) (N:=["many", "thing"]) F l4' er' (λcdv A outer s H E B hr=>aO'
  (ag' (aI' (TW.td (cH' (bC' (bu' (a8' rfl z_isinstance rfl z_tuple (en 1)))) (dA' (c1' hr (bn' rfl z_len (ab' (en 1) ac' rfl)) ad'))))
  (ah' (ai' (aq' bt'))) aA')
  (ah' (ai' (aq' (bW' (aR' aJ'.G (hr.mono (by decide)) rfl aJ'.m aJ'.p aJ'.b (ab' (az' (en 1) ad') ac' rfl)) (bW' (aR' aJ'.G (hr.mono (by decide)) rfl aJ'.m aJ'.p aJ'.b (ab' (az' (en 1) ad') ac' rfl)) (c0' (oR' ad' (az' (en 1) ad') (az' (en 1) ad') (en 0))))))))))
theorem kA':FnScope ["many", "roads", "k", "road"] ["many", "roads"] (defScope ct'):=⟨rfl,rfl,rfl,by decide +kernel,rfl,by decide +kernel,by decide +kernel⟩
theorem kB' {f:Addr}{fd:FuncData} (F:Fun K "has_ring" "has_ring" ct' f fd) {iR' h4'} (aU':Cd P w K mg base 27 iR' h4' ["web", "one", "other"] be' "way_between") (z_enumerate:mg "enumerate"=none):FnOk P w K mg base CX0 28 f fd ["many", "roads"] (spD K dU') :=
 aW' (k:=27) (N:=["many", "roads", "k", "road"]) F kA' eZ' (λcdv A outer s H E B hr=>aO'
  (ag' (bY' PassesOwn.never rfl (jp' rfl z_enumerate (ab' (en 1) ac' rfl)) (bX' (m:=100) rfl (aC' (gd_n (i:=2) (m:=100) nk) (aC' (gd_n (i:=3) (m:=100) nk) bo')))
  (ah' (aI' (k8' (bE' (ar' (d5' aU'.G (hr.mono (by decide)) rfl aU'.m aU'.p aU'.b (ab' (aM' (ab' (en 0) (ab' (bO' (en 1) aH' (aD' (en 2))) ac' rfl) rfl)) (ab' (az' (en 3) ad') (ab' (az' (en 3) ad') ac' rfl) rfl) rfl))) (aR' aU'.G (hr.mono (by decide)) rfl aU'.m aU'.p aU'.b (ab' (aM' (ab' (en 0) (ab' (bO' (en 1) aH' (aD' (en 2))) ac' rfl) rfl)) (ab' (az' (en 3) ad') (ab' (az' (en 3) ad') ac' rfl) rfl) rfl))) cD')
  (ah' (ai' (aq' bt'))) aA')))
  (ah' (ai' (aq' bt')))))
theorem gj':FnScope ["web", "house"] ["web", "house"] (defScope ba'):=⟨rfl,rfl,rfl,by decide +kernel,rfl,by decide +kernel,by decide +kernel⟩
theorem gk' {f:Addr}{fd:FuncData} (F:Fun K "must_be_house" "must_be_house" ba' f fd) :FnOk P w K mg base CX0 2 f fd ["web", "house"] (spD K a2') :=
 aW' (k:=1) (N:=["web", "house"]) F gj' c6' (λcdv A outer s H E B hr=>aO'
  (ah' (aI' (bC' (pT' ad' (en 1) (az' (en 0) ad')))
  (ah' (ai' or')) aA')))
theorem gl':FnScope ["web", "house"] ["web", "house"] (defScope bb'):=⟨rfl,rfl,rfl,by decide +kernel,rfl,by decide +kernel,by decide +kernel⟩
theorem gm' {f:Addr}{fd:FuncData} (F:Fun K "neighbours_of" "neighbours_of" bb' f fd) {db' cN'} (au':Cd P w K mg base 2 db' cN' ["web", "house"] a2' "must_be_house") (z_sorted:mg "sorted"=none):FnOk P w K mg base CX0 3 f fd ["web", "house"] (spD K bv') :=
 aW' (k:=2) (N:=["web", "house"]) F gl' c7' (λcdv A outer s H E B hr=>aO'
  (ag' (ai' (hG' (aR' au'.G (hr.mono (by decide)) rfl au'.m au'.p au'.b (ab' (en 0) (ab' (en 1) ac' rfl) rfl))))
  (ah' (ai' (d3' (fu' hr rfl z_sorted (ab' (ar' (b1' (N':=["road", "-web", "house"]) (m:=1) (CompScope.of (by kernel_rfl)) rfl (bi' (az' (en 0) ad')) (λ_ _ _ _=>(gd_n (i:=0) (m:=1) nk)) (λ_ _ _ _=>(eG' (sf' hr (en 2) (en 0)))) (λ_ _ _ _=>(mU' (b9' hr (az' (en 0) ad') (en 2)) (az' (en 0) ad') (az' (en 0) ad'))))) ac' rfl)))))))
theorem hV':FnScope ["web", "one", "other"] ["web", "one", "other"] (defScope bp'):=⟨rfl,rfl,rfl,by decide +kernel,rfl,by decide +kernel,by decide +kernel⟩
theorem hW' {f:Addr}{fd:FuncData} (F:Fun K "way_between" "way_between" bp' f fd) {db' cN'} (au':Cd P w K mg base 2 db' cN' ["web", "house"] a2' "must_be_house") {o8' n2'} (by':Cd P w K mg base 26 o8' n2' ["web", "came", "house", "other"] (cf' 21) "way_on"):FnOk P w K mg base CX0 27 f fd ["web", "one", "other"] (spD K be') :=
 aW' (k:=26) (N:=["web", "one", "other"]) F hV' dM' (λcdv A outer s H E B hr=>aO'
  (ag' (ai' (hG' (aR' au'.G (hr.mono (by decide)) rfl au'.m au'.p au'.b (ab' (en 0) (ab' (en 1) ac' rfl) rfl))))
  (ag' (ai' (hG' (aR' au'.G (hr.mono (by decide)) rfl au'.m au'.p au'.b (ab' (en 0) (ab' (en 2) ac' rfl) rfl))))
  (ah' (ai' (rC' (d3' (d5' by'.G (hr.mono (by decide)) rfl by'.m by'.p by'.b (ec' (en 0) cD' (en 1) (en 2) ac' rfl rfl rfl rfl))) (aq' (aR' by'.G (hr.mono (by decide)) rfl by'.m by'.p by'.b (ec' (en 0) cD' (en 1) (en 2) ac' rfl rfl rfl rfl)))))))))
theorem nN':FnScope ["web", "came", "house", "other", "neighbour", "way"] ["web", "came", "house", "other"] (defScope cL'):=⟨rfl,rfl,rfl,by decide +kernel,rfl,by decide +kernel,by decide +kernel⟩
theorem nO' {g:List R->Option (R×List R)}{kk:Nat} (hk:4<=kk){f:Addr}{fd:FuncData} (F:Fun K "way_on" "way_on" cL' f fd) (G:FnOk P w K mg base CX0 kk f fd ["web", "came", "house", "other"] (spD K g)) {dc' cO'} (aQ':Cd P w K mg base 3 dc' cO' ["web", "house"] bv' "neighbours_of") (ck':Binds K fd ["web", "came", "house", "other"] []) (ek':PySem.W.keepIn K (.ref f)=true) (cl':mg "way_on"=some (.ref f)):FnOk P w K mg base CX0 (kk+1) f fd ["web", "came", "house", "other"] (spD K (fnD 6 4 (eY' g))) :=
 aW' (N:=["web", "came", "house", "other", "neighbour", "way"]) F nN' (eY' g) (λcdv A outer s H E B hr=>aO'
  (ag' (aI' (b9' hr (en 2) (en 3))
  (ah' (ai' (d3' (aN' (ab' (en 2) ac' rfl))))) aA')
  (ag' (bY' PassesOwn.never rfl (bi' (ar' (d5' aQ'.G (hr.mono (Nat.le_trans (by decide) hk)) rfl aQ'.m aQ'.p aQ'.b (ab' (en 0) (ab' (en 2) ac' rfl) rfl)))) (gd_n (i:=4) (m:=100) nk)
  (ah' (aI' (c1' hr (en 4) (en 1))
  (ag' (ap' (i:=5) nk (bE' (ar' (d5' G hr rfl cl' ek' ck' (ec' (en 0) (en 2) (en 4) (en 3) ac' rfl rfl rfl rfl))) (aR' G hr rfl cl' ek' ck' (ec' (en 0) (en 2) (en 4) (en 3) ac' rfl rfl rfl rfl))))
  (ah' (aI' (k8' (en 5) cD')
  (ah' (ai' (d3' (c2' (ar' (aN' (ab' (en 2) ac' rfl))) (en 5))))) aA'))) aA')))
  (ah' (ai' (aq' cD'))))))
theorem iF' {f:Addr}{fd:FuncData} (F:Fun K "way_on" "way_on" cL' f fd) {dc' cO'} (aQ':Cd P w K mg base 3 dc' cO' ["web", "house"] bv' "neighbours_of") (ck':Binds K fd ["web", "came", "house", "other"] []) (ek':PySem.W.keepIn K (.ref f)=true) (cl':mg "way_on"=some (.ref f)):∀ n:Nat,FnOk P w K mg base CX0 (5+n) f fd ["web", "came", "house", "other"] (spD K (cf' n))
 | 0=>eI'
 | n+1=>nO' (Nat.le_trans (by decide) (Nat.le_add_right _ n)) F (iF' F aQ' ck' ek' cl' n) aQ' ck' ek' cl'
theorem jU':FnScope ["cell", "at", "one", "two", "three"] ["cell", "at"] (defScope b4'):=⟨rfl,rfl,rfl,by decide +kernel,rfl,by decide +kernel,by decide +kernel⟩
theorem jV' {f:Addr}{fd:FuncData} (F:Fun K "_law_blend" "_law_blend" b4' f fd) :FnOk P w K mg base CX0 2 f fd ["cell", "at"] (spD K cG') :=
 aW' (k:=1) (N:=["cell", "at", "one", "two", "three"]) F jU' ew' (λcdv A outer s H E B hr=>aO'
  (ag' (aI' (lR' (en 0) (jk' ad' ad'))
  (ah' (ai' (aq' (en 0)))) aA')
  (ag' (ap' (i:=2) nk (cE' (ax' (ax' (cc' (cE' (en 0) ad') ad') (cc' (en 1) ad')) ad') ad'))
  (ag' (ap' (i:=3) nk (cE' (ax' (ax' (cc' (en 2) (en 2)) (cc' (en 1) ad')) (cE' (en 0) ad')) ad'))
  (ag' (ap' (i:=4) nk (cE' (ax' (ax' (cc' (en 3) (en 3)) (cc' (en 2) ad')) ad') ad'))
  (ah' (ai' (aq' (ax' (cc' (ax' (cc' (en 2) ad') (en 3)) ad') (en 4))))))))))
theorem l6':FnScope ["script", "cells", "k", "cell"] ["script"] (defScope cU'):=⟨rfl,rfl,rfl,by decide +kernel,rfl,by decide +kernel,by decide +kernel⟩
theorem l7' {f:Addr}{fd:FuncData} (F:Fun K "_law_pot" "_law_pot" cU' f fd) (z_list:mg "list"=none) (z_enumerate:mg "enumerate"=none):FnOk P w K mg base CX0 2 f fd ["script"] (spD K dI') :=
 aW' (k:=1) (N:=["script", "cells", "k", "cell"]) F l6' fy' (λcdv A outer s H E B hr=>aO'
  (ag' (ai' (d4' (i:=1) nk (eH' rfl z_list (ab' (bO' (en 0) aH' (aD' ad')) ac' rfl))))
  (ag' (bY' PassesOwn.never rfl (jp' rfl z_enumerate (ab' (bO' (en 0) (aD' ad') (aD' ad')) ac' rfl)) (bX' (m:=100) rfl (aC' (gd_n (i:=2) (m:=100) nk) (aC' (gd_n (i:=3) (m:=100) nk) bo')))
  (ah' (ai' (i2' (pv 1) (cE' (en 2) ad') (ax' (cF' (pv 1) (cE' (en 2) ad')) (en 3))))))
  (ah' (ai' (d3' (aN' (ab' (en 1) (ab' ad' (ab' ad' ac' rfl) rfl) rfl))))))))
theorem kC':FnScope ["pot", "many", "at", "cell", "found"] ["pot", "many"] (defScope cu'):=⟨rfl,rfl,rfl,by decide +kernel,rfl,by decide +kernel,by decide +kernel⟩
theorem kD' {f:Addr}{fd:FuncData} (F:Fun K "_law_pick" "_law_pick" cu' f fd) {kM' kj'} (b7':Cd P w K mg base 2 kM' kj' ["cell", "at"] cG' "_law_blend") (z_len:mg "len"=none):FnOk P w K mg base CX0 3 f fd ["pot", "many"] (spD K ak') :=
 aW' (k:=2) (N:=["pot", "many", "at", "cell", "found"]) F kC' e2' (λcdv A outer s H E B hr=>aO'
  (ag' (aI' (i3' (cF' (pv 0) ad') (en 1))
  (ag' (ap' (i:=2) nk (cF' (pv 0) ad'))
  (ag' (ap' (i:=3) nk (cc' ad' (en 2)))
  (ag' (aI' (i3' (en 2) (bn' rfl z_len (ab' (cF' (pv 0) ad') ac' rfl)))
  (ah' (ap' (i:=3) nk (az' (cF' (pv 0) ad') (en 2)))) (ah' (aI' (c1' hr (cF' (pv 0) ad') (ar' (aN' ac')))
  (ah' (ap' (i:=3) nk (cE' (az' (cF' (pv 0) ad') (cE' (ax' (cc' (en 2) ad') ad') (bn' rfl z_len (ab' (cF' (pv 0) ad') ac' rfl)))) (ax' (jk' ad' ad') (cc' ad' (en 2)))))) aA')))
  (ag' (ai' (i2' (pv 0) ad' (ax' (en 2) ad')))
  (ah' (ai' (i2' (pv 0) ad' (aR' b7'.G (hr.mono (by decide)) rfl b7'.m b7'.p b7'.b (ab' (en 3) (ab' (en 2) ac' rfl) rfl))))))))) aA')
  (ag' (ap' (i:=4) nk (cE' (cF' (pv 0) ad') (en 1)))
  (ag' (ai' (i2' (pv 0) ad' (ri' (cF' (pv 0) ad') (en 1))))
  (ah' (ai' (aq' (en 4))))))))
theorem kE':FnScope ["found", "due"] ["found", "due"] (defScope bR'):=⟨rfl,rfl,rfl,by decide +kernel,rfl,by decide +kernel,by decide +kernel⟩
theorem kF' {g:List R->Option (R×List R)}{kk:Nat} (hk:2<=kk){f:Addr}{fd:FuncData} (F:Fun K "_law_same" "_law_same" bR' f fd) (G:FnOk P w K mg base CX0 kk f fd ["found", "due"] (spD K g)) (z_isinstance:mg "isinstance"=none) (z_bool:mg "bool"=none) (z_str:mg "str"=none) (z_int:mg "int"=none) (z_list:mg "list"=none) (z_tuple:mg "tuple"=none) (z_zip:mg "zip"=none) (z_all:mg "all"=none) (z_len:mg "len"=none) (bS':Binds K fd ["found", "due"] []) (dY':PySem.W.keepIn K (.ref f)=true) (bT':mg "_law_same"=some (.ref f)):FnOk P w K mg base CX0 (kk+1) f fd ["found", "due"] (spD K (fnD 2 2 (bP' g))) :=
 aW' (N:=["found", "due"]) F kE' (bP' g) (λcdv A outer s H E B hr=>aO'
  (ag' (aI' (TW.td (cH' (rn' (en 1) cD') (dA' (bu' (b2' rfl z_isinstance rfl z_bool (en 1))))))
  (ah' (ai' (aq' (bW' (em' hr (b2' rfl z_isinstance rfl z_bool (en 0)) (b2' rfl z_isinstance rfl z_bool (en 1))) (c0' (em' hr (en 0) (en 1))))))) aA')
  (ag' (aI' (bu' (gK' rfl z_isinstance rfl z_str (en 1)))
  (ah' (ai' (aq' (bW' (gK' rfl z_isinstance rfl z_str (en 0)) (c0' (em' hr (en 0) (en 1))))))) aA')
  (ag' (aI' (bu' (dT' rfl z_isinstance rfl z_int (en 1)))
  (ah' (ai' (aq' (bW' (dT' rfl z_isinstance rfl z_int (en 0)) (bW' (gG' (b2' rfl z_isinstance rfl z_bool (en 0))) (c0' (em' hr (en 0) (en 1)))))))) aA')
  (ag' (aI' (TW.td (cH' (c1' hr (a8' rfl z_isinstance rfl z_tuple (en 1)) (a8' rfl z_isinstance rfl z_tuple (en 0))) (dA' (c1' hr (f0' rfl z_isinstance rfl z_list (en 1)) (f0' rfl z_isinstance rfl z_list (en 0))))))
  (ah' (ai' (aq' bt'))) aA')
  (ah' (ai' (aq' (bW' (em' hr (bn' rfl z_len (ab' (en 0) ac' rfl)) (bn' rfl z_len (ab' (en 1) ac' rfl))) (c0' (js' rfl rfl z_all (ab' (ar' (b1' (N':=["one", "other", "-found", "-due"]) (m:=2) (CompScope.of (by kernel_rfl)) rfl (pW' rfl z_zip (ab' (en 0) (ab' (en 1) ac' rfl) rfl)) (λ_ _ _ _=>(bX' (m:=2) rfl (aC' (gd_n (i:=0) (m:=2) nk) (aC' (gd_n (i:=1) (m:=2) nk) bo')))) (λ_ _ _ _=>dj') (λ_ _ _ _=>(aR' G hr rfl bT' dY' bS' (ab' (en 0) (ab' (en 1) ac' rfl) rfl))))) ac' rfl))))))))))))
theorem f3' {f:Addr}{fd:FuncData} (F:Fun K "_law_same" "_law_same" bR' f fd) (z_isinstance:mg "isinstance"=none) (z_bool:mg "bool"=none) (z_str:mg "str"=none) (z_int:mg "int"=none) (z_list:mg "list"=none) (z_tuple:mg "tuple"=none) (z_zip:mg "zip"=none) (z_all:mg "all"=none) (z_len:mg "len"=none) (bS':Binds K fd ["found", "due"] []) (dY':PySem.W.keepIn K (.ref f)=true) (bT':mg "_law_same"=some (.ref f)):∀ n:Nat,FnOk P w K mg base CX0 (3+n) f fd ["found", "due"] (spD K (bf' n))
 | 0=>eI'
 | n+1=>kF' (Nat.le_trans (by decide) (Nat.le_add_right _ n)) F (f3' F z_isinstance z_bool z_str z_int z_list z_tuple z_zip z_all z_len bS' dY' bT' n) z_isinstance z_bool z_str z_int z_list z_tuple z_zip z_all z_len bS' dY' bT'
theorem jW':FnScope ["thing", "many"] ["thing", "many"] (defScope b5'):=⟨rfl,rfl,rfl,by decide +kernel,rfl,by decide +kernel,by decide +kernel⟩
theorem jX' {f:Addr}{fd:FuncData} (F:Fun K "_law_whole" "_law_whole" b5' f fd) (z_isinstance:mg "isinstance"=none) (z_bool:mg "bool"=none) (z_int:mg "int"=none):FnOk P w K mg base CX0 2 f fd ["thing", "many"] (spD K b3') :=
 aW' (k:=1) (N:=["thing", "many"]) F jW' ey' (λcdv A outer s H E B hr=>aO'
  (ah' (ai' (aq' (bW' (dT' rfl z_isinstance rfl z_int (en 0)) (bW' (gG' (b2' rfl z_isinstance rfl z_bool (en 0))) (c0' (pR' ad' (en 0) (en 1)))))))))
theorem jY':FnScope ["pot", "many", "order", "k"] ["pot", "many"] (defScope b6'):=⟨rfl,rfl,rfl,by decide +kernel,rfl,by decide +kernel,by decide +kernel⟩
theorem jZ' {f:Addr}{fd:FuncData} (F:Fun K "_law_order" "_law_order" b6' f fd) {aV' aP'} (aa':Cd P w K mg base 3 aV' aP' ["pot", "many"] ak' "_law_pick") (z_range:mg "range"=none):FnOk P w K mg base CX0 4 f fd ["pot", "many"] (spD K dy') :=
 aW' (k:=3) (N:=["pot", "many", "order", "k"]) F jY' ez' (λcdv A outer s H E B hr=>aO'
  (ag' (ai' (d4' (i:=2) nk (aN' ac')))
  (ag' (bY' PassesOwn.never rfl (dg' rfl z_range (ab' (en 1) ac' rfl)) (gd_n (i:=3) (m:=100) nk)
  (ah' (ai' (rz' (pv 2) (ab' (an' aa'.G (hr.mono (by decide)) rfl aa'.m aa'.p aa'.b (pv 0) (ab' (ax' (en 3) ad') ac' rfl)) (ab' (en 3) ac' rfl) rfl)))))
  (ah' (ai' (aq' (en 2)))))))
theorem l8':FnScope ["pot", "most", "often", "many", "order", "roads", "k", "pair"] ["pot", "most"] (defScope cV'):=⟨rfl,rfl,rfl,by decide +kernel,rfl,by decide +kernel,by decide +kernel⟩
theorem l9' {f:Addr}{fd:FuncData} (F:Fun K "_law_web" "_law_web" cV' f fd) {aV' aP'} (aa':Cd P w K mg base 3 aV' aP' ["pot", "many"] ak' "_law_pick") {kN' kk'} (b8':Cd P w K mg base 4 kN' kk' ["pot", "many"] dy' "_law_order") (z_range:mg "range"=none) (z_min:mg "min"=none) (z_max:mg "max"=none) (z_sorted:mg "sorted"=none) (z_tuple:mg "tuple"=none):FnOk P w K mg base CX0 5 f fd ["pot", "most"] (spD K dJ') :=
 aW' (k:=4) (N:=["pot", "most", "often", "many", "order", "roads", "k", "pair"]) F l8' fz' (λcdv A outer s H E B hr=>aO'
  (ag' (ap' (i:=2) nk (an' aa'.G (hr.mono (by decide)) rfl aa'.m aa'.p aa'.b (pv 0) (ab' ad' ac' rfl)))
  (ag' (ap' (i:=3) nk (ax' ad' (an' aa'.G (hr.mono (by decide)) rfl aa'.m aa'.p aa'.b (pv 0) (ab' (en 1) ac' rfl))))
  (ag' (ap' (i:=4) nk (an' b8'.G (hr.mono (by decide)) rfl b8'.m b8'.p b8'.b (pv 0) (ab' (en 3) ac' rfl)))
  (ag' (ai' (d4' (i:=5) nk (aN' ac')))
  (ag' (bY' PassesOwn.never rfl (jh' rfl z_range (ab' ad' (ab' (en 3) ac' rfl) rfl)) (gd_n (i:=6) (m:=100) nk)
  (ah' (aI' (lR' (an' aa'.G (hr.mono (by decide)) rfl aa'.m aa'.p aa'.b (pv 0) (ab' ad' ac' rfl)) (en 2))
  (ag' (ap' (i:=7) nk (aM' (ab' (az' (en 4) (en 6)) (ab' (az' (en 4) (an' aa'.G (hr.mono (by decide)) rfl aa'.m aa'.p aa'.b (pv 0) (ab' (en 6) ac' rfl))) ac' rfl) rfl)))
  (ah' (ai' (jg' (pv 5) (aM' (ab' (p8' rfl rfl z_min (ab' (en 7) ac' rfl)) (ab' (p9' rfl rfl z_max (ab' (en 7) ac' rfl)) ac' rfl) rfl)))))) aA')))
  (ah' (ai' (aq' (aM' (ab' (en 3) (ab' (eR' rfl z_tuple (ab' (ar' (fu' hr rfl z_sorted (ab' (en 5) ac' rfl))) ac' rfl)) ac' rfl) rfl)))))))))))
theorem kG':FnScope ["web", "house", "found"] ["web", "house"] (defScope cv'):=⟨rfl,rfl,rfl,by decide +kernel,rfl,by decide +kernel,by decide +kernel⟩
theorem kH' {f:Addr}{fd:FuncData} (F:Fun K "_law_near" "_law_near" cv' f fd) (z_sorted:mg "sorted"=none):FnOk P w K mg base CX0 2 f fd ["web", "house"] (spD K dV') :=
 aW' (k:=1) (N:=["web", "house", "found"]) F kG' e4' (λcdv A outer s H E B hr=>aO'
  (ag' (ap' (i:=2) nk (ar' (c2' (ar' (b1' (N':=["one", "other", "-web", "house", "-found"]) (m:=2) (CompScope.of (by kernel_rfl)) rfl (bi' (az' (en 0) ad')) (λ_ _ _ _=>(bX' (m:=2) rfl (aC' (gd_n (i:=0) (m:=2) nk) (aC' (gd_n (i:=1) (m:=2) nk) bo')))) (λ_ _ _ _=>(eG' (b9' hr (en 0) (en 3)))) (λ_ _ _ _=>(en 1)))) (ar' (b1' (N':=["one", "other", "-web", "house", "-found"]) (m:=2) (CompScope.of (by kernel_rfl)) rfl (bi' (az' (en 0) ad')) (λ_ _ _ _=>(bX' (m:=2) rfl (aC' (gd_n (i:=0) (m:=2) nk) (aC' (gd_n (i:=1) (m:=2) nk) bo')))) (λ_ _ _ _=>(eG' (b9' hr (en 1) (en 3)))) (λ_ _ _ _=>(en 0)))))))
  (ah' (ai' (d3' (fu' hr rfl z_sorted (ab' (en 2) ac' rfl)))))))
theorem hX':FnScope ["web", "house", "shut", "ways", "waiting", "here", "there"] ["web", "house", "shut"] (defScope bq'):=⟨rfl,rfl,rfl,by decide +kernel,rfl,by decide +kernel,by decide +kernel⟩
theorem hY' {f:Addr}{fd:FuncData} (F:Fun K "_law_reached" "_law_reached" bq' f fd) {mn' kO'} (cA':Cd P w K mg base 2 mn' kO' ["web", "house"] dV' "_law_near"):FnOk P w K mg base CX0 3 f fd ["web", "house", "shut"] (spD K bZ') :=
 aW' (k:=2) (N:=["web", "house", "shut", "ways", "waiting", "here", "there"]) F hX' dN' (λcdv A outer s H E B hr=>aO'
  (ag' (ai' (lq' (i:=3) nk (oP' (en 1) (ar' (aN' (ab' (en 1) ac' rfl))))))
  (ag' (ai' (d4' (i:=4) nk (aN' (ab' (en 1) ac' rfl))))
  (ag' (jI' PassesOwn.never (rl' hr (pv 4) (ar' (aN' ac')))
  (ag' (ap' (i:=5) nk (rA' (pv 4)))
  (ah' (bY' PassesOwn.never rfl (bi' (ar' (d5' cA'.G (hr.mono (by decide)) rfl cA'.m cA'.p cA'.b (ab' (en 0) (ab' (en 5) ac' rfl) rfl)))) (gd_n (i:=6) (m:=100) nk)
  (ah' (aI' (TW.td (mT' (c1' hr (en 6) (en 2)) (k4' (qb' (lM' hr) (en 6) (pv 3)))))
  (ag' (ai' (qd' hr (pv 3) (en 6) (ar' (c2' (hS' hr (pv 3) (en 5)) (ar' (aN' (ab' (en 6) ac' rfl)))))))
  (ah' (ai' (jg' (pv 4) (en 6))))) aA'))))))
  (ah' (ai' (qa' (pv 3))))))))
theorem ff':FnScope ["many", "roads", "left", "size", "ends"] ["many", "roads"] (defScope aX'):=⟨rfl,rfl,rfl,by decide +kernel,rfl,by decide +kernel,by decide +kernel⟩
theorem fg' {f:Addr}{fd:FuncData} (F:Fun K "_law_without_ring" "_law_without_ring" aX' f fd) (z_list:mg "list"=none) (z_len:mg "len"=none):FnOk P w K mg base CX0 2 f fd ["many", "roads"] (spD K bw') :=
 aW' (k:=1) (N:=["many", "roads", "left", "size", "ends"]) F ff' ch' (λcdv A outer s H E B hr=>aO'
  (ag' (ap' (i:=2) nk (ar' (eH' rfl z_list (ab' (en 1) ac' rfl))))
  (ag' (ap' (i:=3) nk (dB' ad'))
  (ag' (jI' PassesOwn.never (c1' hr (en 3) (bn' rfl z_len (ab' (en 2) ac' rfl)))
  (ag' (ap' (i:=3) nk (bn' rfl z_len (ab' (en 2) ac' rfl)))
  (ag' (ap' (i:=4) nk (ar' (c2' (ar' (b1' (N':=["one", "other", "-many", "-roads", "-left", "-size", "-ends"]) (m:=2) (CompScope.of (by kernel_rfl)) rfl (bi' (en 2)) (λ_ _ _ _=>(bX' (m:=2) rfl (aC' (gd_n (i:=0) (m:=2) nk) (aC' (gd_n (i:=1) (m:=2) nk) bo')))) (λ_ _ _ _=>dj') (λ_ _ _ _=>(en 0)))) (ar' (b1' (N':=["one", "other", "-many", "-roads", "-left", "-size", "-ends"]) (m:=2) (CompScope.of (by kernel_rfl)) rfl (bi' (en 2)) (λ_ _ _ _=>(bX' (m:=2) rfl (aC' (gd_n (i:=0) (m:=2) nk) (aC' (gd_n (i:=1) (m:=2) nk) bo')))) (λ_ _ _ _=>dj') (λ_ _ _ _=>(en 1)))))))
  (ah' (ai' (fY' (i:=2) (N':=["road", "-many", "-roads", "-left", "-size", "ends"]) (m:=1) (CompScope.of (by kernel_rfl)) rfl nk (bi' (en 2)) (λ_ _ _ _=>(gd_n (i:=0) (m:=1) nk)) (λ_ _ _ _=>(eG' (TW.td (mT' (lQ' (nI' (en 5) (ab' (az' (en 0) ad') ac' rfl)) ad') (k4' (lQ' (nI' (en 5) (ab' (az' (en 0) ad') ac' rfl)) ad')))))) (λ_ _ _ _=>(en 0))))))))
  (ah' (ai' (aq' (em' hr (en 2) (ar' (aN' ac'))))))))))
theorem iP':FnScope ["thing", "many", "roads", "road"] ["thing"] (defScope bG'):=⟨rfl,rfl,rfl,by decide +kernel,rfl,by decide +kernel,by decide +kernel⟩
theorem iQ' {f:Addr}{fd:FuncData} (F:Fun K "_law_is_web" "_law_is_web" bG' f fd) {kP' kl'} (a0':Cd P w K mg base 2 kP' kl' ["thing", "many"] b3' "_law_whole") {fF' fh'} (aY':Cd P w K mg base 2 fF' fh' ["many", "roads"] bw' "_law_without_ring") (z_len:mg "len"=none) (z_isinstance:mg "isinstance"=none) (z_tuple:mg "tuple"=none) (z_all:mg "all"=none) (z_sorted:mg "sorted"=none) (z_set:mg "set"=none) (z_list:mg "list"=none):FnOk P w K mg base CX0 3 f fd ["thing"] (spD K ci') :=
 aW' (k:=2) (N:=["thing", "many", "roads", "road"]) F iP' ef' (λcdv A outer s H E B hr=>aO'
  (ag' (aI' (TW.td (cH' (bC' (bu' (a8' rfl z_isinstance rfl z_tuple (en 0)))) (cH' (c1' hr (bn' rfl z_len (ab' (en 0) ac' rfl)) ad') (cH' (bC' (bu' (aR' a0'.G (hr.mono (by decide)) rfl a0'.m a0'.p a0'.b (ab' (az' (en 0) ad') (ab' ad' ac' rfl) rfl)))) (dA' (b9' hr (az' (en 0) ad') ad'))))))
  (ah' (ai' (aq' bt'))) aA')
  (ag' (ai' (fi' (en 0) (bX' (m:=100) rfl (aC' (gd_n (i:=1) (m:=100) nk) (aC' (gd_n (i:=2) (m:=100) nk) bo')))))
  (ag' (aI' (bC' (bu' (a8' rfl z_isinstance rfl z_tuple (en 2))))
  (ah' (ai' (aq' bt'))) aA')
  (ag' (bY' PassesOwn.never rfl (bi' (en 2)) (gd_n (i:=3) (m:=100) nk)
  (ag' (aI' (TW.td (cH' (bC' (bu' (a8' rfl z_isinstance rfl z_tuple (en 3)))) (cH' (c1' hr (bn' rfl z_len (ab' (en 3) ac' rfl)) ad') (dA' (bC' (bu' (js' rfl rfl z_all (ab' (ar' (b1' (N':=["house", "-thing", "many", "-roads", "-road"]) (m:=1) (CompScope.of (by kernel_rfl)) rfl (bi' (en 3)) (λ_ _ _ _=>(gd_n (i:=0) (m:=1) nk)) (λ_ _ _ _=>dj') (λ_ _ _ _=>(aR' a0'.G (hr.mono (by decide)) rfl a0'.m a0'.p a0'.b (ab' (en 0) (ab' (en 2) ac' rfl) rfl))))) ac' rfl))))))))
  (ah' (ai' (aq' bt'))) aA')
  (ah' (aI' (lR' (az' (en 3) ad') (az' (en 3) ad'))
  (ah' (ai' (aq' bt'))) aA'))))
  (ah' (ai' (aq' (bW' (em' hr (ar' (eH' rfl z_list (ab' (en 2) ac' rfl))) (ar' (f2' hr rfl z_sorted rfl z_set (ab' (en 2) ac' rfl)))) (c0' (aR' aY'.G (hr.mono (by decide)) rfl aY'.m aY'.p aY'.b (ab' (en 1) (ab' (en 2) ac' rfl) rfl))))))))))))
theorem gn':FnScope ["pot", "share", "many", "pairs", "one", "other"] ["pot"] (defScope bc'):=⟨rfl,rfl,rfl,by decide +kernel,rfl,by decide +kernel,by decide +kernel⟩
theorem go' {f:Addr}{fd:FuncData} (F:Fun K "_law_any_roads" "_law_any_roads" bc' f fd) {aV' aP'} (aa':Cd P w K mg base 3 aV' aP' ["pot", "many"] ak' "_law_pick") (z_range:mg "range"=none) (z_tuple:mg "tuple"=none):FnOk P w K mg base CX0 4 f fd ["pot"] (spD K ca') :=
 aW' (k:=3) (N:=["pot", "share", "many", "pairs", "one", "other"]) F gn' c8' (λcdv A outer s H E B hr=>aO'
  (ag' (ap' (i:=1) nk (ax' ad' (an' aa'.G (hr.mono (by decide)) rfl aa'.m aa'.p aa'.b (pv 0) (ab' ad' ac' rfl))))
  (ag' (ap' (i:=2) nk (ax' ad' (an' aa'.G (hr.mono (by decide)) rfl aa'.m aa'.p aa'.b (pv 0) (ab' ad' ac' rfl))))
  (ag' (ai' (d4' (i:=3) nk (aN' ac')))
  (ag' (bY' PassesOwn.never rfl (dg' rfl z_range (ab' (en 2) ac' rfl)) (gd_n (i:=4) (m:=100) nk)
  (ah' (bY' PassesOwn.never rfl (jh' rfl z_range (ab' (ax' (en 4) ad') (ab' (en 2) ac' rfl) rfl)) (gd_n (i:=5) (m:=100) nk)
  (ah' (aI' (i3' (an' aa'.G (hr.mono (by decide)) rfl aa'.m aa'.p aa'.b (pv 0) (ab' ad' ac' rfl)) (en 1))
  (ah' (ai' (jg' (pv 3) (aM' (ab' (en 4) (ab' (en 5) ac' rfl) rfl))))) aA')))))
  (ah' (ai' (aq' (aM' (ab' (en 2) (ab' (eR' rfl z_tuple (ab' (en 3) ac' rfl)) ac' rfl) rfl))))))))))
theorem gY':FnScope ["pot", "web", "many", "way", "one", "other", "some"] ["pot", "web"] (defScope bj'):=⟨rfl,rfl,rfl,by decide +kernel,rfl,by decide +kernel,by decide +kernel⟩
theorem gZ' {f:Addr}{fd:FuncData} (F:Fun K "_law_odd_road" "_law_odd_road" bj' f fd) {aV' aP'} (aa':Cd P w K mg base 3 aV' aP' ["pot", "many"] ak' "_law_pick"):FnOk P w K mg base CX0 4 f fd ["pot", "web"] (spD K cp') :=
 aW' (k:=3) (N:=["pot", "web", "many", "way", "one", "other", "some"]) F gY' do' (λcdv A outer s H E B hr=>aO'
  (ag' (ap' (i:=2) nk (az' (en 1) ad'))
  (ag' (ap' (i:=3) nk (an' aa'.G (hr.mono (by decide)) rfl aa'.m aa'.p aa'.b (pv 0) (ab' ad' ac' rfl)))
  (ag' (ap' (i:=4) nk (an' aa'.G (hr.mono (by decide)) rfl aa'.m aa'.p aa'.b (pv 0) (ab' (en 2) ac' rfl)))
  (ag' (ap' (i:=5) nk (an' aa'.G (hr.mono (by decide)) rfl aa'.m aa'.p aa'.b (pv 0) (ab' (en 2) ac' rfl)))
  (ag' (ap' (i:=6) nk (by with_reducible exact (ar' (aN' (KX.ad (.tup (.nm (by with_unfolding_all exact pv 5) (.nm (by with_unfolding_all exact pv 4) .nil)) (.tup (.nm (by with_unfolding_all exact pv 4) .nil) (.tup (.nm (by with_unfolding_all exact pv 4) (.nm (by with_unfolding_all exact pv 5) (.nm (by with_unfolding_all exact pv 4) .nil))) (.lst (.nm (by with_unfolding_all exact pv 4) (.nm (by with_unfolding_all exact pv 5) .nil)) (.tup (.nm (by with_unfolding_all exact pv 4) (.nm (by with_unfolding_all exact pv 2) .nil)) (.tup (.neg (.nm (by with_unfolding_all exact pv 4) .nil)) (.tup (.bl (.nm (by with_unfolding_all exact pv 5) .nil)) (.tup (.nm (by with_unfolding_all exact pv 4) (.str .nil)) .nil)))))))))))))
  (ah' (ai' (aq' (az' (ar' (c2' (en 6) (by with_reducible exact (ar' (aN' (KX.ad (.non (.nm (by with_unfolding_all exact pv 4) (.tup (.non (.nm (by with_unfolding_all exact pv 5) .nil)) (.tup (.tup (.nm (by with_unfolding_all exact pv 4) (.nm (by with_unfolding_all exact pv 5) .nil)) .nil) .nil)))))))))) (en 3)))))))))))
theorem fT':FnScope ["pot", "way", "web", "many", "roads", "at", "one", "other", "found"] ["pot", "way", "web"] (defScope a4'):=⟨rfl,rfl,rfl,by decide +kernel,rfl,by decide +kernel,by decide +kernel⟩
theorem fU' {f:Addr}{fd:FuncData} (F:Fun K "_law_roads_bent" "_law_roads_bent" a4' f fd) {aV' aP'} (aa':Cd P w K mg base 3 aV' aP' ["pot", "many"] ak' "_law_pick") {h5' hh'} (bl':Cd P w K mg base 4 h5' hh' ["pot", "web"] cp' "_law_odd_road") (z_len:mg "len"=none) (z_min:mg "min"=none) (z_max:mg "max"=none) (z_sorted:mg "sorted"=none) (z_tuple:mg "tuple"=none) (z_list:mg "list"=none):FnOk P w K mg base CX0 5 f fd ["pot", "way", "web"] (spD K bQ') :=
 aW' (k:=4) (N:=["pot", "way", "web", "many", "roads", "at", "one", "other", "found"]) F fT' cK' (λcdv A outer s H E B hr=>aO'
  (ag' (ai' (fi' (en 2) (bX' (m:=100) rfl (aC' (gd_n (i:=3) (m:=100) nk) (aC' (gd_n (i:=4) (m:=100) nk) bo')))))
  (ag' (ap' (i:=5) nk (an' aa'.G (hr.mono (by decide)) rfl aa'.m aa'.p aa'.b (pv 0) (ab' (ax' (bn' rfl z_len (ab' (en 4) ac' rfl)) ad') ac' rfl)))
  (ag' (aI' (b9' hr (en 1) ad')
  (ag' (ap' (i:=6) nk (an' aa'.G (hr.mono (by decide)) rfl aa'.m aa'.p aa'.b (pv 0) (ab' (en 3) ac' rfl)))
  (ag' (ap' (i:=7) nk (an' aa'.G (hr.mono (by decide)) rfl aa'.m aa'.p aa'.b (pv 0) (ab' (en 3) ac' rfl)))
  (ag' (ap' (i:=8) nk (ax' (ax' (bE' (bO' (en 4) aH' (aD' (en 5))) (cd' (en 4) aH' (aD' (en 5)))) (aM' (ab' (aM' (ab' (m4' rfl rfl z_min (ab' (en 6) (ab' (en 7) ac' rfl) rfl)) (ab' (m5' rfl rfl z_max (ab' (en 6) (ab' (en 7) ac' rfl) rfl)) ac' rfl) rfl)) ac' rfl))) (bE' (bO' (en 4) (aD' (en 5)) aH') (cd' (en 4) (aD' (en 5)) aH'))))
  (ah' (ai' (aq' (mU' (b9' hr (an' aa'.G (hr.mono (by decide)) rfl aa'.m aa'.p aa'.b (pv 0) (ab' ad' ac' rfl)) ad') (en 8) (eR' rfl z_tuple (ab' (ar' (gV' hr rfl z_sorted (ab' (en 8) ac' rfl))) ac' rfl))))))))) aA')
  (ag' (aI' (b9' hr (en 1) ad')
  (ah' (ai' (aq' (ax' (ax' (bE' (bO' (en 4) aH' (aD' (en 5))) (cd' (en 4) aH' (aD' (en 5)))) (aM' (ab' (an' bl'.G (hr.mono (by decide)) rfl bl'.m bl'.p bl'.b (pv 0) (ab' (en 2) ac' rfl)) ac' rfl))) (bE' (bO' (en 4) (aD' (ax' (en 5) (an' aa'.G (hr.mono (by decide)) rfl aa'.m aa'.p aa'.b (pv 0) (ab' ad' ac' rfl)))) aH') (cd' (en 4) (aD' (ax' (en 5) (an' aa'.G (hr.mono (by decide)) rfl aa'.m aa'.p aa'.b (pv 0) (ab' ad' ac' rfl)))) aH')))))) aA')
  (ag' (aI' (b9' hr (en 1) ad')
  (ah' (ai' (aq' (az' (ar' (aN' (ab' (qg' (en 4) (dB' ad')) (ab' (ax' (bE' (bO' (en 4) (aD' (en 5)) aH') (cd' (en 4) (aD' (en 5)) aH')) (bE' (bO' (en 4) aH' (aD' (en 5))) (cd' (en 4) aH' (aD' (en 5))))) (ab' (ax' (en 4) (bE' (bO' (en 4) (aD' (dB' ad')) aH') (cd' (en 4) (aD' (dB' ad')) aH'))) ac' rfl) rfl) rfl))) (an' aa'.G (hr.mono (by decide)) rfl aa'.m aa'.p aa'.b (pv 0) (ab' ad' ac' rfl)))))) aA')
  (ag' (aI' (b9' hr (en 1) ad')
  (ah' (ai' (aq' (ax' (bE' (bO' (en 4) aH' (aD' (en 5))) (cd' (en 4) aH' (aD' (en 5)))) (bE' (bO' (en 4) (aD' (ax' (en 5) ad')) aH') (cd' (en 4) (aD' (ax' (en 5) ad')) aH')))))) aA')
  (ah' (ai' (aq' (az' (ar' (aN' (ec' (ar' (eH' rfl z_list (ab' (en 4) ac' rfl))) cD' (aM' (ab' (en 4) ac' rfl)) ad' (ab' je' (ab' (ax' (en 4) (aM' (ab' (aM' ac') ac' rfl))) ac' rfl) rfl) rfl rfl rfl rfl))) (an' aa'.G (hr.mono (by decide)) rfl aa'.m aa'.p aa'.b (pv 0) (ab' ad' ac' rfl)))))))))))))
theorem kI':FnScope ["pot", "web", "way", "many", "roads", "odd", "ways", "ends", "end", "pair"] ["pot", "web"] (defScope cw'):=⟨rfl,rfl,rfl,by decide +kernel,rfl,by decide +kernel,by decide +kernel⟩
theorem kJ' {f:Addr}{fd:FuncData} (F:Fun K "_law_bent" "_law_bent" cw' f fd) {aV' aP'} (aa':Cd P w K mg base 3 aV' aP' ["pot", "many"] ak' "_law_pick") {gu' fV'} (a5':Cd P w K mg base 5 gu' fV' ["pot", "way", "web"] bQ' "_law_roads_bent") {iS' h6'} (bs':Cd P w K mg base 3 iS' h6' ["web", "house", "shut"] bZ' "_law_reached") (z_sorted:mg "sorted"=none) (z_len:mg "len"=none) (z_min:mg "min"=none) (z_max:mg "max"=none) (z_tuple:mg "tuple"=none):FnOk P w K mg base CX0 6 f fd ["pot", "web"] (spD K dW') :=
 aW' (k:=5) (N:=["pot", "web", "way", "many", "roads", "odd", "ways", "ends", "end", "pair"]) F kI' e5' (λcdv A outer s H E B hr=>aO'
  (ag' (ap' (i:=2) nk (an' aa'.G (hr.mono (by decide)) rfl aa'.m aa'.p aa'.b (pv 0) (ab' ad' ac' rfl)))
  (ag' (ai' (fi' (en 1) (bX' (m:=100) rfl (aC' (gd_n (i:=3) (m:=100) nk) (aC' (gd_n (i:=4) (m:=100) nk) bo')))))
  (ag' (aI' (i3' (en 2) ad')
  (ah' (ai' (aq' (aM' (ab' (en 3) (ab' (an' a5'.G (hr.mono (by decide)) rfl a5'.m a5'.p a5'.b (pv 0) (ab' (en 2) (ab' (en 1) ac' rfl) rfl)) ac' rfl) rfl))))) aA')
  (ag' (aI' (b9' hr (en 2) ad')
  (ag' (ap' (i:=5) nk (ar' (aN' (ec' ad' ad' (rh' (en 3) ad') (ax' (en 3) ad') (ec' (dB' ad') bt' je' cD' (ab' (aM' (ab' (en 3) ac' rfl)) (ab' ad' ac' rfl) rfl) rfl rfl rfl rfl) rfl rfl rfl rfl))))
  (ah' (ai' (aq' (aM' (ab' (az' (en 5) (an' aa'.G (hr.mono (by decide)) rfl aa'.m aa'.p aa'.b (pv 0) (ab' ad' ac' rfl))) (ab' (en 4) ac' rfl) rfl)))))) aA')
  (ag' (aI' (b9' hr (en 2) ad')
  (ah' (ai' (aq' (az' (by with_reducible exact (ar' (aN' (KX.ad (.tup (.nm (by with_unfolding_all exact pv 3) .nil) (.tup (.nm (by with_unfolding_all exact pv 3) (.nm (by with_unfolding_all exact pv 4) (.nm (by with_unfolding_all exact pv 4) .nil))) (.lst (.nm (by with_unfolding_all exact pv 3) (.nm (by with_unfolding_all exact pv 4) .nil)) (.nm (by with_unfolding_all exact pv 4) (.nm (by with_unfolding_all exact pv 3) .nil))))))))) (an' aa'.G (hr.mono (by decide)) rfl aa'.m aa'.p aa'.b (pv 0) (ab' ad' ac' rfl)))))) aA')
  (ag' (ai' (lq' (i:=6) nk (qe' bs'.G (hr.mono (by decide)) rfl bs'.m bs'.p bs'.b (ab' (en 1) (ab' (an' aa'.G (hr.mono (by decide)) rfl aa'.m aa'.p aa'.b (pv 0) (ab' (en 3) ac' rfl)) (ab' cD' ac' rfl) rfl) rfl))))
  (ag' (ai' (fY' (i:=7) (N':=["house", "-pot", "-web", "-way", "-many", "-roads", "-odd", "ways", "-ends", "-end", "-pair"]) (m:=1) (CompScope.of (by kernel_rfl)) rfl nk (bi' (ar' (oT' hr rfl rfl z_sorted (pv 6)))) (λ_ _ _ _=>(gd_n (i:=0) (m:=1) nk)) (λ_ _ _ _=>(eG' (lQ' (bn' rfl z_len (ab' (hS' hr (pv 7) (en 0)) ac' rfl)) ad'))) (λ_ _ _ _=>(hS' hr (pv 7) (en 0)))))
  (ag' (aI' (b9' hr (en 7) (ar' (aN' ac')))
  (ah' (ai' (aq' (en 1)))) aA')
  (ag' (ap' (i:=8) nk (az' (en 7) (an' aa'.G (hr.mono (by decide)) rfl aa'.m aa'.p aa'.b (pv 0) (ab' (bn' rfl z_len (ab' (en 7) ac' rfl)) ac' rfl))))
  (ag' (ap' (i:=9) nk (aM' (ab' (m4' rfl rfl z_min (ab' (az' (en 8) ad') (ab' (az' (en 8) (dB' ad')) ac' rfl) rfl)) (ab' (m5' rfl rfl z_max (ab' (az' (en 8) ad') (ab' (az' (en 8) (dB' ad')) ac' rfl) rfl)) ac' rfl) rfl)))
  (ah' (ai' (aq' (aM' (ab' (en 3) (ab' (eR' rfl z_tuple (ab' (ar' (gV' hr rfl z_sorted (ab' (ax' (en 4) (aM' (ab' (en 9) ac' rfl))) ac' rfl))) ac' rfl)) ac' rfl) rfl))))))))))))))))
theorem g0':FnScope ["pot", "web", "way", "many", "roads", "odd", "at", "one", "other", "road"] ["pot", "web"] (defScope bk'):=⟨rfl,rfl,rfl,by decide +kernel,rfl,by decide +kernel,by decide +kernel⟩
theorem g5' {f:Addr}{fd:FuncData} (F:Fun K "_law_end_bent" "_law_end_bent" bk' f fd) {aV' aP'} (aa':Cd P w K mg base 3 aV' aP' ["pot", "many"] ak' "_law_pick") (z_len:mg "len"=none):FnOk P w K mg base CX0 4 f fd ["pot", "web"] (spD K cq') :=
 aW' (k:=3) (N:=["pot", "web", "way", "many", "roads", "odd", "at", "one", "other", "road"]) F g0' dp' (λcdv A outer s H E B hr=>aO'
  (ag' (ap' (i:=2) nk (an' aa'.G (hr.mono (by decide)) rfl aa'.m aa'.p aa'.b (pv 0) (ab' ad' ac' rfl)))
  (ag' (ai' (fi' (en 1) (bX' (m:=100) rfl (aC' (gd_n (i:=3) (m:=100) nk) (aC' (gd_n (i:=4) (m:=100) nk) bo')))))
  (ag' (ap' (i:=5) nk (by with_reducible exact (az' (ar' (aN' (KX.ad (.bl (.bl (.non (.str (.str (.lst .nil (.lst (.int .nil) (.tup .nil (.tup (.int .nil) (.pow (.neg (.nm (by with_unfolding_all exact pv 3) .nil))))))))))))))) (by with_unfolding_all exact (en 2)) (by with_unfolding_all exact λ_ _=>rfl))))
  (ag' (ap' (i:=6) nk (an' aa'.G (hr.mono (by decide)) rfl aa'.m aa'.p aa'.b (pv 0) (ab' (ax' (bn' rfl z_len (ab' (en 4) ac' rfl)) ad') ac' rfl)))
  (ag' (aI' (b9' hr (en 6) (bn' rfl z_len (ab' (en 4) ac' rfl)))
  (ah' (ai' (aq' (aM' (ab' (en 5) (ab' (en 4) ac' rfl) rfl))))) aA')
  (ag' (ai' (fi' (az' (en 4) (en 6)) (bX' (m:=100) rfl (aC' (gd_n (i:=7) (m:=100) nk) (aC' (gd_n (i:=8) (m:=100) nk) bo')))))
  (ag' (ap' (i:=9) nk (az' (ar' (aN' (ab' (aM' (ab' (en 7) (ab' (en 5) ac' rfl) rfl)) (ab' (aM' (ab' (en 5) (ab' (en 8) ac' rfl) rfl)) ac' rfl) rfl))) (an' aa'.G (hr.mono (by decide)) rfl aa'.m aa'.p aa'.b (pv 0) (ab' ad' ac' rfl))))
  (ah' (ai' (aq' (aM' (ab' (en 3) (ab' (ax' (ax' (bE' (bO' (en 4) aH' (aD' (en 6))) (cd' (en 4) aH' (aD' (en 6)))) (aM' (ab' (en 9) ac' rfl))) (bE' (bO' (en 4) (aD' (ax' (en 6) ad')) aH') (cd' (en 4) (aD' (ax' (en 6) ad')) aH'))) ac' rfl) rfl)))))))))))))
theorem rL':FnScope ["script", "pot", "things", "turn", "web", "thing", "before"] ["script"] (defScope dX'):=⟨rfl,rfl,rfl,by decide +kernel,rfl,by decide +kernel,by decide +kernel⟩
theorem rM' {f:Addr}{fd:FuncData} (F:Fun K "law" "law" dX' f fd) {n3' mo'} (cX':Cd P w K mg base 2 n3' mo' ["script"] dI' "_law_pot") {n4' mp'} (bh':Cd P w K mg base 5 n4' mp' ["pot", "most"] dJ' "_law_web") {o9' n5'} (bz':Cd P w K mg base 29 o9' n5' ["thing"] cg' "is_web") {mq' kQ'} (cB':Cd P w K mg base 6 mq' kQ' ["pot", "web"] dW' "_law_bent") {hl' gv'} (bd':Cd P w K mg base 4 hl' gv' ["pot"] ca' "_law_any_roads") {h7' ht'} (bm':Cd P w K mg base 4 h7' ht' ["pot", "web"] cq' "_law_end_bent") {mr' kR'} (cC':Cd P w K mg base 11 mr' kR' ["found", "due"] (bf' 8) "_law_same") {km' iT'} (bK':Cd P w K mg base 3 km' iT' ["thing"] ci' "_law_is_web") (z_range:mg "range"=none) (z_repr:mg "repr"=none):FnOk P w K mg base CX0 30 f fd ["script"] (spD K e6') :=
 aW' (k:=29) (N:=["script", "pot", "things", "turn", "web", "thing", "before"]) F rL' l3' (λcdv A outer s H E B hr=>aO'
  (ag' (ai' (d4' (i:=1) nk (d5' cX'.G (hr.mono (by decide)) rfl cX'.m cX'.p cX'.b (ab' (en 0) ac' rfl))))
  (ag' (ap' (i:=2) nk (by with_reducible exact (ar' (aN' (KX.ad (.non (.tup .nil (.tup (.int .nil) (.tup (.int (.tup .nil .nil)) (.tup (.int (.tup .nil .nil)) (.tup (.int (.tup .nil .nil)) (.tup (.int (.tup .nil .nil)) (.str (.int (.lst .nil (.tup (.int (.tup (.tup (.int (.int .nil)) .nil) .nil)) (.tup (.bl (.tup .nil .nil)) .nil)))))))))))))))))
  (ag' (bY' PassesOwn.never rfl (dg' rfl z_range (ab' ad' ac' rfl)) (gd_n (i:=3) (m:=100) nk)
  (ag' (ap' (i:=4) nk (an' bh'.G (hr.mono (by decide)) rfl bh'.m bh'.p bh'.b (pv 1) (ab' ad' ac' rfl)))
  (ag' (aI' (oB' (aR' bz'.G (hr.mono (by decide)) rfl bz'.m bz'.p bz'.b (ab' (en 4) ac' rfl)) bt')
  (ah' (ai' (aq' bt'))) aA')
  (ah' (ap' (i:=2) nk (ar' (c2' (ar' (c2' (en 2) (ar' (aN' (ab' (en 4) ac' rfl))))) (ar' (b1' (N':=["k", "-script", "pot", "-things", "-turn", "web", "-thing", "-before"]) (m:=1) (CompScope.of (by kernel_rfl)) rfl (dg' rfl z_range (ab' ad' ac' rfl)) (λ_ _ _ _=>(gd_n (i:=0) (m:=1) nk)) (λ_ _ _ _=>dj') (λ_ _ _ _=>(an' cB'.G (hr.mono (by decide)) rfl cB'.m cB'.p cB'.b (pv 2) (ab' (en 5) ac' rfl))))))))))))
  (ag' (bY' PassesOwn.never rfl (dg' rfl z_range (ab' ad' ac' rfl)) (gd_n (i:=3) (m:=100) nk)
  (ag' (ap' (i:=4) nk (an' bh'.G (hr.mono (by decide)) rfl bh'.m bh'.p bh'.b (pv 1) (ab' ad' ac' rfl)))
  (ah' (ap' (i:=2) nk (ar' (c2' (ar' (c2' (en 2) (ar' (aN' (ab' (an' bd'.G (hr.mono (by decide)) rfl bd'.m bd'.p bd'.b (pv 1) ac') ac' rfl))))) (ar' (b1' (N':=["k", "-script", "pot", "-things", "-turn", "web", "-thing", "-before"]) (m:=1) (CompScope.of (by kernel_rfl)) rfl (dg' rfl z_range (ab' ad' ac' rfl)) (λ_ _ _ _=>(gd_n (i:=0) (m:=1) nk)) (λ_ _ _ _=>dj') (λ_ _ _ _=>(an' bm'.G (hr.mono (by decide)) rfl bm'.m bm'.p bm'.b (pv 2) (ab' (en 5) ac' rfl)))))))))))
  (ag' (bY' PassesOwn.never rfl (bi' (en 2)) (gd_n (i:=5) (m:=100) nk)
  (ag' (ap' (i:=6) nk (jN' hr rfl z_repr (ab' (en 5) ac' rfl)))
  (ah' (aI' (TW.td (cH' (bC' (bu' (aR' cC'.G (hr.mono (by decide)) rfl cC'.m cC'.p cC'.b (ab' (aR' bz'.G (hr.mono (by decide)) rfl bz'.m bz'.p bz'.b (ab' (en 5) ac' rfl)) (ab' (aR' bK'.G (hr.mono (by decide)) rfl bK'.m bK'.p bK'.b (ab' (en 5) ac' rfl)) ac' rfl) rfl)))) (dA' (c1' hr (jN' hr rfl z_repr (ab' (en 5) ac' rfl)) (en 6)))))
  (ah' (ai' (aq' bt'))) aA'))))
  (ah' (ai' (aq' bt')))))))))
end
theorem all_mk {l:PySem.W.OpenLaw}{w:World}{K:PySem.W.Frag}{h:Heap}{mg:Str->Option Value}{fa:Addr} (X:K.In h) (G:h.Ns mainGlobals mg) (hfa:mg "law"=some (.ref fa))
  {f0:Addr}{od0 an0:Option Addr}{sl0:Array (Option Value)}{oc0 kV0 dc0 pm0 cd0 ct0:Value} (a0:PySem.W.nsIn K mainGlobals "is_whole"=some (some (.ref f0))) (l0:K.lookup f0=some ⟨oc0,od0,.func (PySem.W.fnOf "is_whole" "is_whole" (defArgs cr') (defBody cr') (defScope cr') .none kV0 dc0 pm0 an0 cd0 ct0),sl0⟩) (c0:PySem.W.codeIn K cd0 "is_whole"=true) (k0:PySem.W.keepIn K (.ref f0)=true)
  {f1:Addr}{od1 an1:Option Addr}{sl1:Array (Option Value)}{oc1 kV1 dc1 pm1 cd1 ct1:Value} (a1:PySem.W.nsIn K mainGlobals "is_web"=some (some (.ref f1))) (l1:K.lookup f1=some ⟨oc1,od1,.func (PySem.W.fnOf "is_web" "is_web" (defArgs dq') (defBody dq') (defScope dq') .none kV1 dc1 pm1 an1 cd1 ct1),sl1⟩) (c1:PySem.W.codeIn K cd1 "is_web"=true) (k1:PySem.W.keepIn K (.ref f1)=true)
  {f2:Addr}{od2 an2:Option Addr}{sl2:Array (Option Value)}{oc2 kV2 dc2 pm2 cd2 ct2:Value} (a2:PySem.W.nsIn K mainGlobals "is_road"=some (some (.ref f2))) (l2:K.lookup f2=some ⟨oc2,od2,.func (PySem.W.fnOf "is_road" "is_road" (defArgs cT') (defBody cT') (defScope cT') .none kV2 dc2 pm2 an2 cd2 ct2),sl2⟩) (c2:PySem.W.codeIn K cd2 "is_road"=true) (k2:PySem.W.keepIn K (.ref f2)=true)
  {f3:Addr}{od3 an3:Option Addr}{sl3:Array (Option Value)}{oc3 kV3 dc3 pm3 cd3 ct3:Value} (a3:PySem.W.nsIn K mainGlobals "has_ring"=some (some (.ref f3))) (l3:K.lookup f3=some ⟨oc3,od3,.func (PySem.W.fnOf "has_ring" "has_ring" (defArgs ct') (defBody ct') (defScope ct') .none kV3 dc3 pm3 an3 cd3 ct3),sl3⟩) (c3:PySem.W.codeIn K cd3 "has_ring"=true) (k3:PySem.W.keepIn K (.ref f3)=true)
  {f4:Addr}{od4 an4:Option Addr}{sl4:Array (Option Value)}{oc4 kV4 dc4 pm4 cd4 ct4:Value} (a4:PySem.W.nsIn K mainGlobals "must_be_house"=some (some (.ref f4))) (l4:K.lookup f4=some ⟨oc4,od4,.func (PySem.W.fnOf "must_be_house" "must_be_house" (defArgs ba') (defBody ba') (defScope ba') .none kV4 dc4 pm4 an4 cd4 ct4),sl4⟩) (c4:PySem.W.codeIn K cd4 "must_be_house"=true) (k4:PySem.W.keepIn K (.ref f4)=true)
  {f5:Addr}{od5 an5:Option Addr}{sl5:Array (Option Value)}{oc5 kV5 dc5 pm5 cd5 ct5:Value} (a5:PySem.W.nsIn K mainGlobals "neighbours_of"=some (some (.ref f5))) (l5:K.lookup f5=some ⟨oc5,od5,.func (PySem.W.fnOf "neighbours_of" "neighbours_of" (defArgs bb') (defBody bb') (defScope bb') .none kV5 dc5 pm5 an5 cd5 ct5),sl5⟩) (c5:PySem.W.codeIn K cd5 "neighbours_of"=true) (k5:PySem.W.keepIn K (.ref f5)=true)
  {f6:Addr}{od6 an6:Option Addr}{sl6:Array (Option Value)}{oc6 kV6 dc6 pm6 cd6 ct6:Value} (a6:PySem.W.nsIn K mainGlobals "way_between"=some (some (.ref f6))) (l6:K.lookup f6=some ⟨oc6,od6,.func (PySem.W.fnOf "way_between" "way_between" (defArgs bp') (defBody bp') (defScope bp') .none kV6 dc6 pm6 an6 cd6 ct6),sl6⟩) (c6:PySem.W.codeIn K cd6 "way_between"=true) (k6:PySem.W.keepIn K (.ref f6)=true)
  {f7:Addr}{od7 an7:Option Addr}{sl7:Array (Option Value)}{oc7 kV7 dc7 pm7 cd7 ct7:Value} (a7:PySem.W.nsIn K mainGlobals "way_on"=some (some (.ref f7))) (l7:K.lookup f7=some ⟨oc7,od7,.func (PySem.W.fnOf "way_on" "way_on" (defArgs cL') (defBody cL') (defScope cL') .none kV7 dc7 pm7 an7 cd7 ct7),sl7⟩) (c7:PySem.W.codeIn K cd7 "way_on"=true) (k7:PySem.W.keepIn K (.ref f7)=true)
  {f8:Addr}{od8 an8:Option Addr}{sl8:Array (Option Value)}{oc8 kV8 dc8 pm8 cd8 ct8:Value} (a8:PySem.W.nsIn K mainGlobals "_law_blend"=some (some (.ref f8))) (l8:K.lookup f8=some ⟨oc8,od8,.func (PySem.W.fnOf "_law_blend" "_law_blend" (defArgs b4') (defBody b4') (defScope b4') .none kV8 dc8 pm8 an8 cd8 ct8),sl8⟩) (c8:PySem.W.codeIn K cd8 "_law_blend"=true) (k8:PySem.W.keepIn K (.ref f8)=true)
  {f9:Addr}{od9 an9:Option Addr}{sl9:Array (Option Value)}{oc9 kV9 dc9 pm9 cd9 ct9:Value} (a9:PySem.W.nsIn K mainGlobals "_law_pot"=some (some (.ref f9))) (l9:K.lookup f9=some ⟨oc9,od9,.func (PySem.W.fnOf "_law_pot" "_law_pot" (defArgs cU') (defBody cU') (defScope cU') .none kV9 dc9 pm9 an9 cd9 ct9),sl9⟩) (c9:PySem.W.codeIn K cd9 "_law_pot"=true) (k9:PySem.W.keepIn K (.ref f9)=true)
  {f10:Addr}{od10 an10:Option Addr}{sl10:Array (Option Value)}{oc10 kV10 dc10 pm10 cd10 ct10:Value} (a10:PySem.W.nsIn K mainGlobals "_law_pick"=some (some (.ref f10))) (l10:K.lookup f10=some ⟨oc10,od10,.func (PySem.W.fnOf "_law_pick" "_law_pick" (defArgs cu') (defBody cu') (defScope cu') .none kV10 dc10 pm10 an10 cd10 ct10),sl10⟩) (c10:PySem.W.codeIn K cd10 "_law_pick"=true) (k10:PySem.W.keepIn K (.ref f10)=true)
  {f11:Addr}{od11 an11:Option Addr}{sl11:Array (Option Value)}{oc11 kV11 dc11 pm11 cd11 ct11:Value} (a11:PySem.W.nsIn K mainGlobals "_law_same"=some (some (.ref f11))) (l11:K.lookup f11=some ⟨oc11,od11,.func (PySem.W.fnOf "_law_same" "_law_same" (defArgs bR') (defBody bR') (defScope bR') .none kV11 dc11 pm11 an11 cd11 ct11),sl11⟩) (c11:PySem.W.codeIn K cd11 "_law_same"=true) (k11:PySem.W.keepIn K (.ref f11)=true)
  {f12:Addr}{od12 an12:Option Addr}{sl12:Array (Option Value)}{oc12 kV12 dc12 pm12 cd12 ct12:Value} (a12:PySem.W.nsIn K mainGlobals "_law_whole"=some (some (.ref f12))) (l12:K.lookup f12=some ⟨oc12,od12,.func (PySem.W.fnOf "_law_whole" "_law_whole" (defArgs b5') (defBody b5') (defScope b5') .none kV12 dc12 pm12 an12 cd12 ct12),sl12⟩) (c12:PySem.W.codeIn K cd12 "_law_whole"=true) (k12:PySem.W.keepIn K (.ref f12)=true)
  {f13:Addr}{od13 an13:Option Addr}{sl13:Array (Option Value)}{oc13 kV13 dc13 pm13 cd13 ct13:Value} (a13:PySem.W.nsIn K mainGlobals "_law_order"=some (some (.ref f13))) (l13:K.lookup f13=some ⟨oc13,od13,.func (PySem.W.fnOf "_law_order" "_law_order" (defArgs b6') (defBody b6') (defScope b6') .none kV13 dc13 pm13 an13 cd13 ct13),sl13⟩) (c13:PySem.W.codeIn K cd13 "_law_order"=true) (k13:PySem.W.keepIn K (.ref f13)=true)
  {f14:Addr}{od14 an14:Option Addr}{sl14:Array (Option Value)}{oc14 kV14 dc14 pm14 cd14 ct14:Value} (a14:PySem.W.nsIn K mainGlobals "_law_web"=some (some (.ref f14))) (l14:K.lookup f14=some ⟨oc14,od14,.func (PySem.W.fnOf "_law_web" "_law_web" (defArgs cV') (defBody cV') (defScope cV') .none kV14 dc14 pm14 an14 cd14 ct14),sl14⟩) (c14:PySem.W.codeIn K cd14 "_law_web"=true) (k14:PySem.W.keepIn K (.ref f14)=true)
  {f15:Addr}{od15 an15:Option Addr}{sl15:Array (Option Value)}{oc15 kV15 dc15 pm15 cd15 ct15:Value} (a15:PySem.W.nsIn K mainGlobals "_law_near"=some (some (.ref f15))) (l15:K.lookup f15=some ⟨oc15,od15,.func (PySem.W.fnOf "_law_near" "_law_near" (defArgs cv') (defBody cv') (defScope cv') .none kV15 dc15 pm15 an15 cd15 ct15),sl15⟩) (c15:PySem.W.codeIn K cd15 "_law_near"=true) (k15:PySem.W.keepIn K (.ref f15)=true)
  {f16:Addr}{od16 an16:Option Addr}{sl16:Array (Option Value)}{oc16 kV16 dc16 pm16 cd16 ct16:Value} (a16:PySem.W.nsIn K mainGlobals "_law_reached"=some (some (.ref f16))) (l16:K.lookup f16=some ⟨oc16,od16,.func (PySem.W.fnOf "_law_reached" "_law_reached" (defArgs bq') (defBody bq') (defScope bq') .none kV16 dc16 pm16 an16 cd16 ct16),sl16⟩) (c16:PySem.W.codeIn K cd16 "_law_reached"=true) (k16:PySem.W.keepIn K (.ref f16)=true)
  {f17:Addr}{od17 an17:Option Addr}{sl17:Array (Option Value)}{oc17 kV17 dc17 pm17 cd17 ct17:Value} (a17:PySem.W.nsIn K mainGlobals "_law_without_ring"=some (some (.ref f17))) (l17:K.lookup f17=some ⟨oc17,od17,.func (PySem.W.fnOf "_law_without_ring" "_law_without_ring" (defArgs aX') (defBody aX') (defScope aX') .none kV17 dc17 pm17 an17 cd17 ct17),sl17⟩) (c17:PySem.W.codeIn K cd17 "_law_without_ring"=true) (k17:PySem.W.keepIn K (.ref f17)=true)
  {f18:Addr}{od18 an18:Option Addr}{sl18:Array (Option Value)}{oc18 kV18 dc18 pm18 cd18 ct18:Value} (a18:PySem.W.nsIn K mainGlobals "_law_is_web"=some (some (.ref f18))) (l18:K.lookup f18=some ⟨oc18,od18,.func (PySem.W.fnOf "_law_is_web" "_law_is_web" (defArgs bG') (defBody bG') (defScope bG') .none kV18 dc18 pm18 an18 cd18 ct18),sl18⟩) (c18:PySem.W.codeIn K cd18 "_law_is_web"=true) (k18:PySem.W.keepIn K (.ref f18)=true)
  {f19:Addr}{od19 an19:Option Addr}{sl19:Array (Option Value)}{oc19 kV19 dc19 pm19 cd19 ct19:Value} (a19:PySem.W.nsIn K mainGlobals "_law_any_roads"=some (some (.ref f19))) (l19:K.lookup f19=some ⟨oc19,od19,.func (PySem.W.fnOf "_law_any_roads" "_law_any_roads" (defArgs bc') (defBody bc') (defScope bc') .none kV19 dc19 pm19 an19 cd19 ct19),sl19⟩) (c19:PySem.W.codeIn K cd19 "_law_any_roads"=true) (k19:PySem.W.keepIn K (.ref f19)=true)
  {f20:Addr}{od20 an20:Option Addr}{sl20:Array (Option Value)}{oc20 kV20 dc20 pm20 cd20 ct20:Value} (a20:PySem.W.nsIn K mainGlobals "_law_odd_road"=some (some (.ref f20))) (l20:K.lookup f20=some ⟨oc20,od20,.func (PySem.W.fnOf "_law_odd_road" "_law_odd_road" (defArgs bj') (defBody bj') (defScope bj') .none kV20 dc20 pm20 an20 cd20 ct20),sl20⟩) (c20:PySem.W.codeIn K cd20 "_law_odd_road"=true) (k20:PySem.W.keepIn K (.ref f20)=true)
  {f21:Addr}{od21 an21:Option Addr}{sl21:Array (Option Value)}{oc21 kV21 dc21 pm21 cd21 ct21:Value} (a21:PySem.W.nsIn K mainGlobals "_law_roads_bent"=some (some (.ref f21))) (l21:K.lookup f21=some ⟨oc21,od21,.func (PySem.W.fnOf "_law_roads_bent" "_law_roads_bent" (defArgs a4') (defBody a4') (defScope a4') .none kV21 dc21 pm21 an21 cd21 ct21),sl21⟩) (c21:PySem.W.codeIn K cd21 "_law_roads_bent"=true) (k21:PySem.W.keepIn K (.ref f21)=true)
  {f22:Addr}{od22 an22:Option Addr}{sl22:Array (Option Value)}{oc22 kV22 dc22 pm22 cd22 ct22:Value} (a22:PySem.W.nsIn K mainGlobals "_law_bent"=some (some (.ref f22))) (l22:K.lookup f22=some ⟨oc22,od22,.func (PySem.W.fnOf "_law_bent" "_law_bent" (defArgs cw') (defBody cw') (defScope cw') .none kV22 dc22 pm22 an22 cd22 ct22),sl22⟩) (c22:PySem.W.codeIn K cd22 "_law_bent"=true) (k22:PySem.W.keepIn K (.ref f22)=true)
  {f23:Addr}{od23 an23:Option Addr}{sl23:Array (Option Value)}{oc23 kV23 dc23 pm23 cd23 ct23:Value} (a23:PySem.W.nsIn K mainGlobals "_law_end_bent"=some (some (.ref f23))) (l23:K.lookup f23=some ⟨oc23,od23,.func (PySem.W.fnOf "_law_end_bent" "_law_end_bent" (defArgs bk') (defBody bk') (defScope bk') .none kV23 dc23 pm23 an23 cd23 ct23),sl23⟩) (c23:PySem.W.codeIn K cd23 "_law_end_bent"=true) (k23:PySem.W.keepIn K (.ref f23)=true)
  {f24:Addr}{od24 an24:Option Addr}{sl24:Array (Option Value)}{oc24 kV24 dc24 pm24 cd24 ct24:Value} (a24:PySem.W.nsIn K mainGlobals "law"=some (some (.ref f24))) (l24:K.lookup f24=some ⟨oc24,od24,.func (PySem.W.fnOf "law" "law" (defArgs dX') (defBody dX') (defScope dX') .none kV24 dc24 pm24 an24 cd24 ct24),sl24⟩) (c24:PySem.W.codeIn K cd24 "law"=true) (k24:PySem.W.keepIn K (.ref f24)=true)
  (y_all:PySem.W.nsIn K mainGlobals "all"=some none)
  (y_bool:PySem.W.nsIn K mainGlobals "bool"=some none)
  (y_enumerate:PySem.W.nsIn K mainGlobals "enumerate"=some none)
  (y_int:PySem.W.nsIn K mainGlobals "int"=some none)
  (y_isinstance:PySem.W.nsIn K mainGlobals "isinstance"=some none)
  (y_len:PySem.W.nsIn K mainGlobals "len"=some none)
  (y_list:PySem.W.nsIn K mainGlobals "list"=some none)
  (y_max:PySem.W.nsIn K mainGlobals "max"=some none)
  (y_min:PySem.W.nsIn K mainGlobals "min"=some none)
  (y_range:PySem.W.nsIn K mainGlobals "range"=some none)
  (y_repr:PySem.W.nsIn K mainGlobals "repr"=some none)
  (y_set:PySem.W.nsIn K mainGlobals "set"=some none)
  (y_sorted:PySem.W.nsIn K mainGlobals "sorted"=some none)
  (y_str:PySem.W.nsIn K mainGlobals "str"=some none)
  (y_tuple:PySem.W.nsIn K mainGlobals "tuple"=some none)
  (y_zip:PySem.W.nsIn K mainGlobals "zip"=some none)
  {t_MOST_HOUSES:Tok} (x_MOST_HOUSES:PySem.W.nsIn K mainGlobals "MOST_HOUSES"=some (some (.int 8 t_MOST_HOUSES))) :
  ∃ fd:FuncData,(∀ (s:Shared) (v:Value),BindsTo s fd ⟨[v],[]⟩ [("script", v)])/\∀ base:Heap,K.In base->base.Ns mainGlobals mg->FnOk l.prog w K mg base CX0 30 fa fd ["script"] (spD K e6'):=by
 have e:=hfa.symm.trans (PySem.W.mg_of X G a24)
 cases e
 have z_all:=PySem.W.mg_none_of X G y_all
 have z_bool:=PySem.W.mg_none_of X G y_bool
 have z_enumerate:=PySem.W.mg_none_of X G y_enumerate
 have z_int:=PySem.W.mg_none_of X G y_int
 have z_isinstance:=PySem.W.mg_none_of X G y_isinstance
 have z_len:=PySem.W.mg_none_of X G y_len
 have z_list:=PySem.W.mg_none_of X G y_list
 have z_max:=PySem.W.mg_none_of X G y_max
 have z_min:=PySem.W.mg_none_of X G y_min
 have z_range:=PySem.W.mg_none_of X G y_range
 have z_repr:=PySem.W.mg_none_of X G y_repr
 have z_set:=PySem.W.mg_none_of X G y_set
 have z_sorted:=PySem.W.mg_none_of X G y_sorted
 have z_str:=PySem.W.mg_none_of X G y_str
 have z_tuple:=PySem.W.mg_none_of X G y_tuple
 have z_zip:=PySem.W.mg_none_of X G y_zip
 have c_MOST_HOUSES:=PySem.W.mg_of X G x_MOST_HOUSES
 have dZ':=aL' (st:=cr') l0 c0 k0
 have hu':=PySem.W.mg_of X G a0
 have hw':=dZ'.binds (ps:=["thing"]) λ_ _ _ _ _ _ us hl=>match us,hl with | [_],_=>rfl
 have gw':=aL' (st:=dq') l1 c1 k1
 have pa':=PySem.W.mg_of X G a1
 have pb':=gw'.binds (ps:=["thing"]) λ_ _ _ _ _ _ us hl=>match us,hl with | [_],_=>rfl
 have fG':=aL' (st:=cT') l2 c2 k2
 have n6':=PySem.W.mg_of X G a2
 have n7':=fG'.binds (ps:=["many", "thing"]) λ_ _ _ _ _ _ us hl=>match us,hl with | [_,_],_=>rfl
 have fb':=aL' (st:=ct') l3 c3 k3
 have ms':=PySem.W.mg_of X G a3
 have mt':=fb'.binds (ps:=["many", "roads"]) λ_ _ _ _ _ _ us hl=>match us,hl with | [_,_],_=>rfl
 have cb':=aL' (st:=ba') l4 c4 k4
 have eu':=PySem.W.mg_of X G a4
 have ev':=cb'.binds (ps:=["web", "house"]) λ_ _ _ _ _ _ us hl=>match us,hl with | [_,_],_=>rfl
 have de':=aL' (st:=bb') l5 c5 k5
 have hA':=PySem.W.mg_of X G a5
 have hB':=de'.binds (ps:=["web", "house"]) λ_ _ _ _ _ _ us hl=>match us,hl with | [_,_],_=>rfl
 have dO':=aL' (st:=bp') l6 c6 k6
 have iU':=PySem.W.mg_of X G a6
 have iV':=dO'.binds (ps:=["web", "one", "other"]) λ_ _ _ _ _ _ us hl=>match us,hl with | [_,_,_],_=>rfl
 have fc':=aL' (st:=cL') l7 c7 k7
 have cl':=PySem.W.mg_of X G a7
 have ck':=fc'.binds (ps:=["web", "came", "house", "other"]) λ_ _ _ _ _ _ us hl=>match us,hl with | [_,_,_,_],_=>rfl
 have eB':=aL' (st:=b4') l8 c8 k8
 have kS':=PySem.W.mg_of X G a8
 have kT':=eB'.binds (ps:=["cell", "at"]) λ_ _ _ _ _ _ us hl=>match us,hl with | [_,_],_=>rfl
 have fH':=aL' (st:=cU') l9 c9 k9
 have n8':=PySem.W.mg_of X G a9
 have n9':=fH'.binds (ps:=["script"]) λ_ _ _ _ _ _ us hl=>match us,hl with | [_],_=>rfl
 have bg':=aL' (st:=cu') l10 c10 k10
 have bU':=PySem.W.mg_of X G a10
 have bV':=bg'.binds (ps:=["pot", "many"]) λ_ _ _ _ _ _ us hl=>match us,hl with | [_,_],_=>rfl
 have d0':=aL' (st:=bR') l11 c11 k11
 have bT':=PySem.W.mg_of X G a11
 have bS':=d0'.binds (ps:=["found", "due"]) λ_ _ _ _ _ _ us hl=>match us,hl with | [_,_],_=>rfl
 have eC':=aL' (st:=b5') l12 c12 k12
 have kU':=PySem.W.mg_of X G a12
 have kV':=eC'.binds (ps:=["thing", "many"]) λ_ _ _ _ _ _ us hl=>match us,hl with | [_,_],_=>rfl
 have eD':=aL' (st:=b6') l13 c13 k13
 have kW':=PySem.W.mg_of X G a13
 have kX':=eD'.binds (ps:=["pot", "many"]) λ_ _ _ _ _ _ us hl=>match us,hl with | [_,_],_=>rfl
 have fI':=aL' (st:=cV') l14 c14 k14
 have oa':=PySem.W.mg_of X G a14
 have ob':=fI'.binds (ps:=["pot", "most"]) λ_ _ _ _ _ _ us hl=>match us,hl with | [_,_],_=>rfl
 have fd':=aL' (st:=cv') l15 c15 k15
 have mu':=PySem.W.mg_of X G a15
 have mw':=fd'.binds (ps:=["web", "house"]) λ_ _ _ _ _ _ us hl=>match us,hl with | [_,_],_=>rfl
 have dP':=aL' (st:=bq') l16 c16 k16
 have iW':=PySem.W.mg_of X G a16
 have iX':=dP'.binds (ps:=["web", "house", "shut"]) λ_ _ _ _ _ _ us hl=>match us,hl with | [_,_,_],_=>rfl
 have cn':=aL' (st:=aX') l17 c17 k17
 have fJ':=PySem.W.mg_of X G a17
 have fK':=cn'.binds (ps:=["many", "roads"]) λ_ _ _ _ _ _ us hl=>match us,hl with | [_,_],_=>rfl
 have el':=aL' (st:=bG') l18 c18 k18
 have kn':=PySem.W.mg_of X G a18
 have ko':=el'.binds (ps:=["thing"]) λ_ _ _ _ _ _ us hl=>match us,hl with | [_],_=>rfl
 have df':=aL' (st:=bc') l19 c19 k19
 have hC':=PySem.W.mg_of X G a19
 have hD':=df'.binds (ps:=["pot"]) λ_ _ _ _ _ _ us hl=>match us,hl with | [_],_=>rfl
 have dv':=aL' (st:=bj') l20 c20 k20
 have h8':=PySem.W.mg_of X G a20
 have h9':=dv'.binds (ps:=["pot", "web"]) λ_ _ _ _ _ _ us hl=>match us,hl with | [_,_],_=>rfl
 have cP':=aL' (st:=a4') l21 c21 k21
 have gx':=PySem.W.mg_of X G a21
 have gy':=cP'.binds (ps:=["pot", "way", "web"]) λ_ _ _ _ _ _ us hl=>match us,hl with | [_,_,_],_=>rfl
 have fe':=aL' (st:=cw') l22 c22 k22
 have mx':=PySem.W.mg_of X G a22
 have my':=fe'.binds (ps:=["pot", "web"]) λ_ _ _ _ _ _ us hl=>match us,hl with | [_,_],_=>rfl
 have dw':=aL' (st:=bk') l23 c23 k23
 have ia':=PySem.W.mg_of X G a23
 have ib':=dw'.binds (ps:=["pot", "web"]) λ_ _ _ _ _ _ us hl=>match us,hl with | [_,_],_=>rfl
 have sM':=aL' (st:=dX') l24 c24 k24
 have uC':=PySem.W.mg_of X G a24
 refine ⟨PySem.W.fnOf "law" "law" (defArgs dX') (defBody dX') (defScope dX') .none kV24 dc24 pm24 an24 cd24 ct24,λs v=>.of_eq rfl,λbase _ _=>?_⟩
 have cX':=l7' (P:=l.prog) (w:=w) (mg:=mg) (base:=base) fH' z_list z_enumerate
 have b7':=jV' (P:=l.prog) (w:=w) (mg:=mg) (base:=base) eB'
 have aa':=kD' (P:=l.prog) (w:=w) (mg:=mg) (base:=base) bg' ⟨b7',kT',eB'.kp,kS'⟩ z_len
 have b8':=jZ' (P:=l.prog) (w:=w) (mg:=mg) (base:=base) eD' ⟨aa',bV',bg'.kp,bU'⟩ z_range
 have bh':=l9' (P:=l.prog) (w:=w) (mg:=mg) (base:=base) fI' ⟨aa',bV',bg'.kp,bU'⟩ ⟨b8',kX',eD'.kp,kW'⟩ z_range z_min z_max z_sorted z_tuple
 have aJ':=kz' (P:=l.prog) (w:=w) (mg:=mg) (base:=base) dZ' z_isinstance z_bool z_int
 have cW':=l5' (P:=l.prog) (w:=w) (mg:=mg) (base:=base) fG' ⟨aJ',hw',dZ'.kp,hu'⟩ z_len z_isinstance z_tuple
 have au':=gk' (P:=l.prog) (w:=w) (mg:=mg) (base:=base) cb'
 have aQ':=gm' (P:=l.prog) (w:=w) (mg:=mg) (base:=base) de' ⟨au',ev',cb'.kp,eu'⟩ z_sorted
 have by':=(iF' (P:=l.prog) (w:=w) (mg:=mg) (base:=base) fc' ⟨aQ',hB',de'.kp,hA'⟩ ck' fc'.kp cl') 21
 have aU':=hW' (P:=l.prog) (w:=w) (mg:=mg) (base:=base) dO' ⟨au',ev',cb'.kp,eu'⟩ ⟨by',ck',fc'.kp,cl'⟩
 have cz':=kB' (P:=l.prog) (w:=w) (mg:=mg) (base:=base) fb' ⟨aU',iV',dO'.kp,iU'⟩ z_enumerate
 have bz':=nM' (P:=l.prog) (w:=w) (mg:=mg) (base:=base) gw' ⟨aJ',hw',dZ'.kp,hu'⟩ ⟨cW',n7',fG'.kp,n6'⟩ ⟨cz',mt',fb'.kp,ms'⟩ z_len z_isinstance z_tuple z_all z_sorted z_set z_list c_MOST_HOUSES
 have bl':=gZ' (P:=l.prog) (w:=w) (mg:=mg) (base:=base) dv' ⟨aa',bV',bg'.kp,bU'⟩
 have a5':=fU' (P:=l.prog) (w:=w) (mg:=mg) (base:=base) cP' ⟨aa',bV',bg'.kp,bU'⟩ ⟨bl',h9',dv'.kp,h8'⟩ z_len z_min z_max z_sorted z_tuple z_list
 have cA':=kH' (P:=l.prog) (w:=w) (mg:=mg) (base:=base) fd' z_sorted
 have bs':=hY' (P:=l.prog) (w:=w) (mg:=mg) (base:=base) dP' ⟨cA',mw',fd'.kp,mu'⟩
 have cB':=kJ' (P:=l.prog) (w:=w) (mg:=mg) (base:=base) fe' ⟨aa',bV',bg'.kp,bU'⟩ ⟨a5',gy',cP'.kp,gx'⟩ ⟨bs',iX',dP'.kp,iW'⟩ z_sorted z_len z_min z_max z_tuple
 have bd':=go' (P:=l.prog) (w:=w) (mg:=mg) (base:=base) df' ⟨aa',bV',bg'.kp,bU'⟩ z_range z_tuple
 have bm':=g5' (P:=l.prog) (w:=w) (mg:=mg) (base:=base) dw' ⟨aa',bV',bg'.kp,bU'⟩ z_len
 have cC':=(f3' (P:=l.prog) (w:=w) (mg:=mg) (base:=base) d0' z_isinstance z_bool z_str z_int z_list z_tuple z_zip z_all z_len bS' d0'.kp bT') 8
 have a0':=jX' (P:=l.prog) (w:=w) (mg:=mg) (base:=base) eC' z_isinstance z_bool z_int
 have aY':=fg' (P:=l.prog) (w:=w) (mg:=mg) (base:=base) cn' z_list z_len
 have bK':=iQ' (P:=l.prog) (w:=w) (mg:=mg) (base:=base) el' ⟨a0',kV',eC'.kp,kU'⟩ ⟨aY',fK',cn'.kp,fJ'⟩ z_len z_isinstance z_tuple z_all z_sorted z_set z_list
 exact rM' (P:=l.prog) (w:=w) (mg:=mg) (base:=base) sM' ⟨cX',n9',fH'.kp,n8'⟩ ⟨bh',ob',fI'.kp,oa'⟩ ⟨bz',pb',gw'.kp,pa'⟩ ⟨cB',my',fe'.kp,mx'⟩ ⟨bd',hD',df'.kp,hC'⟩ ⟨bm',ib',dw'.kp,ia'⟩ ⟨cC',bS',d0'.kp,bT'⟩ ⟨bK',ko',el'.kp,kn'⟩ z_range z_repr
theorem walk {l:PySem.W.OpenLaw}{q:Program}{loose:List Str}{XP:(Str->Option Value)->Heap->Prop}{YP:World->Heap->Prop}{d:DefRec}{K:Params->PySem.W.Frag} (hlaw:∀ ns:List Int,ns.length<=63->∃ rs,e6' [.val (.lst (ns.map D.int))]=some (.val (.bl true),rs)) (hn:l.most=some 63) (hdf:d.params.defaults=[])
  (hY:∀ (w:World) (h:Heap),YP w h->(K w.params).In h)
  (F:∀ (w:World) (mg:Str->Option Value) (fa:Addr) (h:Heap),(K w.params).In h->h.Ns mainGlobals mg->mg d.name=some (.ref fa) →
   ∃ fd:FuncData,(∀ (s:Shared) (u:Value),BindsTo s fd ⟨[u],[]⟩ [("script", u)])/\∀ base:Heap,(K w.params).In base->base.Ns mainGlobals mg->FnOk l.prog w (K w.params) mg base CX0 30 fa fd ["script"] (spD (K w.params) e6')) :
  PySem.W.WalkO q loose XP YP l.row.toRowW d [] (λf vs=>PySem.call f vs) :=
 oE' (n:=63) (k:=30) (x := "script") (CX:=λ_=>CX0) (sp:=λw=>spD (K w.params) e6') hn (by decide) hdf ⟨rfl,by decide,by decide,rfl⟩ hY F (λ_ H a ns hl _ hS=>rp' hS (hlaw ns hl)) λ_ _ _ _ _ z=>z
end Own
namespace Own
open DL L2
def Adj (rs:List (Int×Int)) (a b:Int):Prop:=(a,b)∈rs\/(b,a)∈rs
theorem Adj.symm {rs:List (Int×Int)}{a b:Int} (h:Adj rs a b):Adj rs b a:=h.elim .inr .inl
structure Web (n:Nat) (rs:List (Int×Int)) (rk:Int->Nat):Prop where
 n1:1<=n
 n8:n<=8
 lt:∀ r∈rs,0<=r.1/\r.1 < r.2/\r.2 < n
 nd:rs.Nodup
 ne:∀ a b,Adj rs a b->rk a≠rk b
 rk8:∀ a b,Adj rs a b->rk a < 8
 one:∀ v a b,Adj rs v a->Adj rs v b->rk a < rk v->rk b < rk v->a=b
def Par (rs:List (Int×Int)) (rk:Int->Nat) (v p:Int):Prop:=Adj rs v p/\rk p < rk v
inductive Desc (rs:List (Int×Int)) (rk:Int->Nat) (x:Int):Int->Prop where
 | refl:Desc rs rk x x
 | up {v p:Int} (a:Par rs rk v p) (d:Desc rs rk x p):Desc rs rk x v
def Wl (N:Int->List Int):Nat->Option Int->Int->List Int
 | 0,_,h=>[h]
 | k+1,c,h=>h::((N h).filter λu=>decide (some u≠c)).flatMap (Wl N k (some h))
theorem dr' {N:Int->List Int}{k:Nat}{c:Option Int}{h:Int}:h∈Wl N k c h:=by
 cases k<;>exact List.mem_cons_self
theorem dK' {N:Int->List Int}{k:Nat}{c:Option Int}{h v:Int}:v∈Wl N (k+1) c h↔v=h\/∃ u,u∈N h/\some u≠c/\v∈Wl N k (some h) u:=by
 rw [Wl,List.mem_cons,List.mem_flatMap]
 simp only [List.mem_filter,decide_eq_true_eq,and_assoc]
section
variable {n:Nat}{rs:List (Int×Int)}{rk:Int->Nat}{N:Int->List Int}
theorem Desc.rk_le {x v:Int} (h:Desc rs rk x v):rk x<=rk v:=by
 induction h with
 | refl=>exact Nat.le_refl _
 | up a _ ih=>exact Nat.le_trans ih (Nat.le_of_lt a.2)
theorem Desc.trans {x y v:Int} (h1:Desc rs rk x y) (h2:Desc rs rk y v):Desc rs rk x v:=by
 induction h2 with
 | refl=>exact h1
 | up a _ ih=>exact .up a ih
theorem Web.chain (W:Web n rs rk){a b v:Int} (h1:Desc rs rk a v) (h2:Desc rs rk b v):Desc rs rk a b\/Desc rs rk b a:=by
 induction h1 with
 | refl=>exact .inr h2
 | @up v p q d ih =>
  cases h2 with
  | refl=>exact .inl (.up q d)
  | @up _ p' q' d' =>
   have:=W.one v p p' q.1 q'.1 q.2 q'.2
   subst this
   exact ih d'
theorem Web.sib0 (W:Web n rs rk){a b h:Int} (pa:Par rs rk a h) (pb:Par rs rk b h) (d:Desc rs rk a b):a=b:=by
 cases d with
 | refl=>rfl
 | @up _ p q d' =>
  have:=W.one b p h q.1 pb.1 q.2 pb.2
  subst this
  have:=d'.rk_le
  have:=pa.2
  omega
theorem Web.sib (W:Web n rs rk){a b h v:Int} (pa:Par rs rk a h) (pb:Par rs rk b h) (h1:Desc rs rk a v) (h2:Desc rs rk b v):a=b:=by
 rcases W.chain h1 h2 with d | d
 ·exact W.sib0 pa pb d
 ·exact (W.sib0 pb pa d).symm
def Side (rs:List (Int×Int)) (rk:Int->Nat) (c h v:Int):Prop:=(rk c < rk h/\Desc rs rk h v)\/(rk h < rk c/\¬ Desc rs rk c v)
theorem Web.side (W:Web n rs rk) (hN:∀ v u,u∈N v↔Adj rs v u):∀ (k:Nat) (c h:Int),Adj rs c h->∀ v∈Wl N k (some c) h,Side rs rk c h v:=by
 have base:∀ c h,Adj rs c h->Side rs rk c h h:=λc h a=>by
  have:=W.ne c h a
  by_cases l:rk c < rk h
  ·exact .inl ⟨l,.refl⟩
  ·exact .inr ⟨by omega,λd=>by have:=d.rk_le;omega⟩
 intro k
 induction k with
 | zero=>intro c h a v hv;rw [Wl,List.mem_singleton] at hv;subst hv;exact base c v a
 | succ k ih =>
  intro c h a v hv
  rcases dK'.mp hv with rfl | ⟨u,hu,hc,hv⟩
  ·exact base c v a
  ·have au:=(hN h u).mp hu
   have hc:u≠c:=λz=>hc (by rw [z])
   have s:=ih h u au v hv
   have n1:=W.ne c h a
   have n2:=W.ne h u au
   by_cases l:rk c < rk h
   ·rcases s with ⟨s1,s2⟩ | ⟨s1,_⟩
    ·exact .inl ⟨l,.trans (.up ⟨au.symm,s1⟩ .refl) s2⟩
    ·exact absurd (W.one h u c au a.symm s1 l) hc
   ·have l:rk h < rk c:=by omega
    have pc:Par rs rk c h:=⟨a,l⟩
    refine .inr ⟨l,λd=>?_⟩
    rcases s with ⟨s1,s2⟩ | ⟨s1,s2⟩
    ·exact hc (W.sib (h:=h) ⟨au.symm,s1⟩ pc s2 d)
    ·exact s2 (.trans (.up pc .refl) d)
theorem Web.back (W:Web n rs rk) (hN:∀ v u,u∈N v↔Adj rs v u){k:Nat}{c h:Int} (a:Adj rs c h):c∉Wl N k (some c) h:=λm=>by
 rcases W.side hN k c h a c m with ⟨s1,s2⟩ | ⟨_,s2⟩
 ·have:=s2.rk_le;omega
 ·exact s2 .refl
theorem Web.apart (W:Web n rs rk) (hN:∀ v u,u∈N v↔Adj rs v u){k:Nat}{h a b v:Int} (ha:Adj rs h a) (hb:Adj rs h b) (h1:v∈Wl N k (some h) a) (h2:v∈Wl N k (some h) b):a=b:=by
 rcases W.side hN k h a ha v h1 with ⟨s1,s2⟩ | ⟨s1,s2⟩<;>rcases W.side hN k h b hb v h2 with ⟨t1,t2⟩ | ⟨t1,t2⟩
 ·exact W.sib (h:=h) ⟨ha.symm,s1⟩ ⟨hb.symm,t1⟩ s2 t2
 ·exact absurd (.trans (.up ⟨ha.symm,s1⟩ .refl) s2) t2
 ·exact absurd (.trans (.up ⟨hb.symm,t1⟩ .refl) t2) s2
 ·exact W.one h a b ha hb s1 t1
theorem g6' {α β:Type}{f:α->List β}:∀ {l:List α},l.Nodup->(∀ x∈l,(f x).Nodup)->(∀ x∈l,∀ y∈l,∀ v,v∈f x->v∈f y->x=y)->(l.flatMap f).Nodup
 | [],_,_,_=>List.nodup_nil
 | x::l,hn,h1,h2=>by
  rw [List.flatMap_cons,List.nodup_append]
  rw [List.nodup_cons] at hn
  refine ⟨h1 x List.mem_cons_self,g6' hn.2 (λy hy=>h1 y (List.mem_cons_of_mem _ hy)) (λy hy z hz=>h2 y (List.mem_cons_of_mem _ hy) z (List.mem_cons_of_mem _ hz)),λv hv u hu e=>?_⟩
  subst e
  obtain ⟨y,hy,hv'⟩:=List.mem_flatMap.mp hu
  have:=h2 x List.mem_cons_self y (List.mem_cons_of_mem _ hy) v hv hv'
  subst this
  exact hn.1 hy
theorem Web.nodup (W:Web n rs rk) (hN:∀ v u,u∈N v↔Adj rs v u) (hn:∀ v,(N v).Nodup):∀ (k:Nat) (c:Option Int) (h:Int),(Wl N k c h).Nodup:=by
 intro k
 induction k with
 | zero=>intro c h;rw [Wl];exact List.nodup_cons.mpr ⟨by simp,List.nodup_nil⟩
 | succ k ih =>
  intro c h
  rw [Wl,List.nodup_cons]
  refine ⟨λm=>?_,g6' ((hn h).filter _) (λu hu=>ih _ _) λu hu v hv x h1 h2=>?_⟩
  ·obtain ⟨u,hu,m⟩:=List.mem_flatMap.mp m
   exact W.back hN ((hN h u).mp (List.mem_filter.mp hu).1) m
  ·exact W.apart hN ((hN h u).mp (List.mem_filter.mp hu).1) ((hN h v).mp (List.mem_filter.mp hv).1) h1 h2
def mu (rk:Int->Nat):Option Int->Int->Nat
 | none,_=>18
 | some c,h=>if rk c < rk h then 8 - rk h else 9+rk h
theorem Web.mu_lt (W:Web n rs rk){c:Option Int}{h u:Int} (hc:∀ x,c=some x->Adj rs x h) (hu:Adj rs h u) (ne:some u≠c):mu rk (some h) u < mu rk c h:=by
 have n2:=W.ne h u hu
 have r1:=W.rk8 h u hu
 have r2:=W.rk8 u h hu.symm
 cases c with
 | none=>simp only [mu];split<;>omega
 | some c =>
  have a:=hc c rfl
  have n1:=W.ne c h a
  simp only [mu]
  by_cases l:rk c < rk h
  ·rw [if_pos l]
   by_cases m:rk h < rk u
   ·rw [if_pos m];omega
   ·exact absurd (W.one h u c hu a.symm (by omega) l) (λz=>ne (by rw [z]))
  ·rw [if_neg l]
   split<;>omega
theorem Web.closed (W:Web n rs rk) (hN:∀ v u,u∈N v↔Adj rs v u):∀ (k:Nat) (c:Option Int) (h:Int),(∀ x,c=some x->Adj rs x h)->mu rk c h < k->∀ v u,v∈Wl N k c h->u∈N v->some u≠c->u∈Wl N k c h:=by
 intro k
 induction k with
 | zero=>intro c h _ hm;omega
 | succ k ih =>
  intro c h hc hm v u hv hu ne
  rw [dK']
  rcases dK'.mp hv with rfl | ⟨w,hw,hwc,hv⟩
  ·exact .inr ⟨u,hu,ne,dr'⟩
  ·by_cases e:u=h
   ·exact .inl e
   ·have aw:=(hN h w).mp hw
    have:=W.mu_lt hc aw hwc
    exact .inr ⟨w,hw,hwc,ih (some h) w (λx z=>by cases z;exact aw) (by omega) v u hv hu λz=>e (by cases z;rfl)⟩
theorem j0' (S:Int->Prop) (c:Option Int) (hS:∀ v u,S v->u∈N v->some u≠c->S u):∀ (k:Nat) (c':Option Int) (h:Int),S h->(∀ v∈Wl N k c' h,some v≠c)->∀ v∈Wl N k c' h,S v:=by
 intro k
 induction k with
 | zero=>intro c' h hh _ v hv;rw [Wl,List.mem_singleton] at hv;subst hv;exact hh
 | succ k ih =>
  intro c' h hh hc v hv
  rcases dK'.mp hv with rfl | ⟨u,hu,huc,hv⟩
  ·exact hh
  ·refine ih (some h) u (hS h u hh hu (hc u (dK'.mpr (.inr ⟨u,hu,huc,dr'⟩)))) (λw hw=>hc w (dK'.mpr (.inr ⟨u,hu,huc,hw⟩))) v hv
theorem Web.just (W:Web n rs rk) (hN:∀ v u,u∈N v↔Adj rs v u){k:Nat}{c:Option Int}{h:Int} (hc:∀ x,c=some x->Adj rs x h) (hm:mu rk c h < k){S:Int->Prop} (h0:S h) (hS:∀ v u,S v->u∈N v->some u≠c->S u) (hW:∀ v,S v->v∈Wl N k c h) (v:Int):S v↔v∈Wl N k c h:=by
 refine ⟨hW v,λm=>j0' S c hS k c h h0 (λw hw z=>?_) v m⟩
 subst z
 exact W.back hN (hc w rfl) hw
end
def PotOk (c:List D):Prop:=∃ (ns:List Int) (at_ acc:Int),c=[.lst (ns.map .int),.int at_,.int acc]/\0<=at_
theorem oV' (a b:Int):∃ z,cvF cG' [.int a,.int b]=some (.int z):=by
 have:wpF cG' [.val (.int a),.val (.int b)] λr _=>∃ z,r=.val (.int z):=by
  refine cR' rfl λKE hE _=>?_
  rw [ew']
  refine af' ?_;rintro K hK hR
  simp
  split
  ·exact hR _ _ (hE _ _ ⟨_,rfl,_,rfl⟩)
  ·refine hK _ ?_
   refine af' ?_;rintro K hK -
   simp
   refine hK _ ?_
   have l1:=Int.emod_nonneg (a % 998244353*40692+b*69621+1009) (show (2147483399:Int)≠0 by decide)
   have u1:=Int.emod_lt_of_pos (a % 998244353*40692+b*69621+1009) (show (0:Int) < 2147483399 by decide)
   generalize (a % 998244353*40692+b*69621+1009) % 2147483399=x at *
   refine af' ?_;rintro K hK -
   simp
   refine ⟨by omega,hK _ ?_⟩
   have l2:=Int.emod_nonneg (x*x+b*48271+a % 131071) (show (2147483647:Int)≠0 by decide)
   have u2:=Int.emod_lt_of_pos (x*x+b*48271+a % 131071) (show (0:Int) < 2147483647 by decide)
   generalize (x*x+b*48271+a % 131071) % 2147483647=y at *
   refine af' ?_;rintro K hK -
   simp
   refine ⟨by omega,hK _ ?_⟩
   generalize (y*y+x*17+3) % 2147483629=z at *
   simp
   exact hE _ _ ⟨_,rfl,_,rfl⟩
 obtain ⟨r,rs',e,z,rfl⟩:=this
 exact ⟨z,by unfold cvF;simp only [List.map];rw [e]⟩
theorem aF' {c:List D}{u:Int}{Q:R->List D->Prop} (hc:PotOk c) (h1:1<=u) (h2:u < 2 ^ 200) (k:∀ n c',0<=n->n < u->PotOk c'->Q (.val (.int n)) c'):wpB ak' c [.int u] Q:=by
 obtain ⟨ns,at_,acc,rfl,h0⟩:=hc
 refine cS' rfl λKE hE _=>?_
 rw [e2']
 refine hU' (λΓ1=>∃ at1 acc1 x y z,0<=at1/\Γ1=[some (.bor [.lst (ns.map .int),.int at1,.int acc1]),some (.val (.int u)),x,y,z]) (λK hK _=>?_) ?_
 ·simp [isMut,R.mut]
  split
  ·refine af' λK1 hK1 _=>?_
   simp [isMut,R.mut]
   refine hK1 _ ?_
   refine af' λK1 hK1 _=>?_
   simp [isMut,R.mut]
   refine hK1 _ ?_
   refine hU' (λΓ1=>∃ m,Γ1=[some (.bor [.lst (ns.map .int),.int at_,.int acc]),some (.val (.int u)),some (.val (.int at_)),some (.val (.int m)),none]) (λK1 hK1 _=>?_) ?_
   ·simp [isMut,R.mut]
    split
    ·rename_i h
     obtain ⟨a,e,m⟩:=ce' (ds:=ns.map D.int) h0 (by simpa using h)
     obtain ⟨b,_,rfl⟩:=List.mem_map.mp m
     rw [fx' e]
     simp
     exact hK1 _ ⟨_,rfl⟩
    ·rename_i h
     split
     ·exact hK1 _ ⟨_,rfl⟩
     ·rename_i h'
      have hl:0 < ns.length:=by cases ns with | nil=>simp at h' | cons=>simp
      refine ⟨by omega,?_⟩
      obtain ⟨a,e,m⟩:=ce' (ds:=ns.map D.int) (i:=(at_*7+1) % (ns.length:Int)) (Int.emod_nonneg _ (by omega)) (by simpa using Int.emod_lt_of_pos _ (by omega))
      obtain ⟨b,_,rfl⟩:=List.mem_map.mp m
      rw [fx' e]
      simp
      exact ⟨by omega,hK1 _ ⟨_,rfl⟩⟩
   ·rintro Γ1 ⟨m,rfl⟩
    refine af' λK1 hK1 _=>?_
    simp [isMut,R.mut]
    refine hK1 _ ?_
    obtain ⟨z,e⟩:=oV' m at_
    simp [isMut,R.mut,e]
    exact hK _ ⟨_,_,_,_,_,by omega,rfl⟩
  ·exact hK _ ⟨_,_,_,_,_,h0,rfl⟩
 ·rintro Γ1 ⟨at1,acc1,x,y,z,h3,rfl⟩
  refine af' ?_;rintro K hK -
  simp [isMut,R.mut]
  refine ⟨by omega,hK _ ?_⟩
  refine af' ?_;rintro K hK -
  simp [isMut,R.mut]
  refine ⟨⟨by omega,by simpa using h2⟩,hK _ ?_⟩
  simp
  exact hE _ _ _ ⟨_,rfl⟩ (k _ _ (Int.emod_nonneg _ (by omega)) (Int.emod_lt_of_pos _ (by omega)) ⟨_,_,_,rfl,h3⟩)
theorem eS' {xs:List D}{m i:Nat}{d:D} (h:(numD m xs)[i]?=some d):∃ x,xs[i]?=some x/\d=.tup [.int ((m+i:Nat):Int),x]:=by
 induction xs generalizing m i with
 | nil=>simp [numD] at h
 | cons a xs ih =>
  cases i with
  | zero=>simp [numD] at h;exact ⟨a,rfl,h.symm⟩
  | succ i =>
   simp only [numD,List.getElem?_cons_succ] at h
   obtain ⟨x,e1,e2⟩:=ih h
   exact ⟨x,by simpa using e1,by rw [e2,show m+1+i=m+(i+1) from by omega]⟩
theorem hZ' {α:Type}{f:α->D}{xs:List α}{lo hi:Option Int}:∃ ys:List α,cutD (xs.map f) lo hi=ys.map f/\(∀ y∈ys,y∈xs)/\ys.length=min (HT.sIx xs.length xs.length hi - HT.sIx xs.length 0 lo) (xs.length - HT.sIx xs.length 0 lo):=by
 refine ⟨(xs.drop (HT.sIx xs.length 0 lo)).take (HT.sIx xs.length xs.length hi - HT.sIx xs.length 0 lo),?_,?_,?_⟩
 ·unfold cutD
  simp [List.map_drop,List.map_take]
 ·intro y h
  exact List.mem_of_mem_drop (List.mem_of_mem_take h)
 ·simp
theorem rN' (ns:List Int):∃ d,coF dI' [.lst (ns.map .int)]=some d/\PotOk d:=by
 refine rI' ?_
 unfold dI'
 refine lv' rfl ?_
 rw [fy']
 refine af' λK hK _=>?_
 simp
 refine hK _ ?_
 obtain ⟨cs,e,-,hl⟩:=hZ' (f:=D.int) (xs:=ns) (lo:=none) (hi:=some 12)
 rw [e]
 have hl2:cs.length=min 12 ns.length:=by
  rw [hl];simp [HT.sIx]
 refine hU' (λΓ1=>∃ cs,∃ x y z,Γ1=[x,some (.own (List.map D.int cs)),y,z]) (λK hK _=>?_) ?_
 ·simp
  obtain ⟨ms,e,-,hm⟩:=hZ' (f:=D.int) (xs:=ns) (lo:=some 12) (hi:=some 63)
  rw [e]
  refine lu' (J:=λi Γ=>∃ cs:List Int,∃ y z,cs.length=min 12 ns.length/\Γ=[some (.val (.lst (ns.map .int))),some (.own (cs.map .int)),y,z]) ⟨cs,_,_,hl2,rfl⟩ ?_ ?_
  ·rintro i d Γ hd ⟨cs,y,z,hc,rfl⟩
   obtain ⟨x,e1,rfl⟩:=eS' hd
   rw [List.getElem?_map,Option.map_eq_some_iff] at e1
   obtain ⟨n,e1,rfl⟩:=e1
   have hi:i < ms.length:=(List.getElem?_eq_some_iff.mp e1).1
   have h12:12 < ns.length:=by
    simp [HT.sIx] at hm
    omega
   simp [isMut,R.mut]
   have hcc:cs.length=12:=by omega
   have hix:((i:Int) % 12)=((i % 12:Nat):Int):=by omega
   rw [hix]
   have hlt:i % 12 < cs.length:=by omega
   rw [fx' (a:=D.int cs[i % 12]) (by rw [gW'];simp [hlt])]
   simp
   refine ⟨(cs.set (i % 12) (cs[i % 12]+n)).map .int,?_,?_⟩
   ·unfold stF L2.ixN
    rw [if_pos (by omega),if_pos (by simp;omega),show ((i:Int) % 12).toNat=i % 12 from by omega]
    simp
   ·exact ⟨cs.set (i % 12) (cs[i % 12]+n),by simpa using hc,by simp⟩
  ·rintro Γ ⟨cs,y,z,hc,rfl⟩
   exact hK _ ⟨cs,_,_,_,rfl⟩
 ·rintro Γ1 ⟨cs,x,y,z,rfl⟩
  simp [flR,fin]
  exact ⟨cs,0,0,rfl,by omega⟩
def pairD (p:Int×Int):D:=.tup [.int p.1,.int p.2]
@[simp] theorem uv' {p:Int×Int}:ixF (pairD p) (.int 0)=some (.int p.1):=rfl
@[simp] theorem uw' {p:Int×Int}:ixF (pairD p) (.int 1)=some (.int p.2):=rfl
theorem dt' {lo:Int}{n i:Nat}{d:D} (h:(rngD lo n)[i]?=some d):d=.int (lo+i)/\i < n:=by
 unfold rngD at h
 rw [List.getElem?_map,Option.map_eq_some_iff] at h
 obtain ⟨k,h1,rfl⟩:=h
 obtain ⟨h2,h3⟩:=List.getElem?_eq_some_iff.mp h1
 rw [List.getElem_range] at h3
 subst h3
 exact ⟨rfl,by simpa using h2⟩
@[simp] theorem du' {lo:Int}{n:Nat}:(rngD lo n).length=n:=by simp [rngD]
theorem bx' {ds:List D}{n:Nat} (h:∀ d∈ds,dep d<=n):depA ds<=n:=by
 induction ds with
 | nil=>simp [depA]
 | cons d ds ih =>
  rw [depA]
  have h1:=h d List.mem_cons_self
  have h2:=ih λd hd=>h d (List.mem_cons_of_mem _ hd)
  omega
def webD (n:Nat) (rs:List (Int×Int)):D:=.tup [.int n,.tup (rs.map pairD)]
@[simp] theorem ux' {n:Nat}{rs:List (Int×Int)}:ixF (webD n rs) (.int 0)=some (.int n):=rfl
@[simp] theorem uy' {n:Nat}{rs:List (Int×Int)}:ixF (webD n rs) (.int 1)=some (.tup (rs.map pairD)):=rfl
def sortI (xs:List Int):List Int:=xs.mergeSort λa b=>decide (a<=b)
theorem cx' (xs:List Int):(sortI xs).Perm xs:=List.mergeSort_perm _ _
theorem oW' {xs ys:List Int} (h:xs.Perm ys):sortI xs=sortI ys:=by
 have tr:∀ a b c:Int,decide (a<=b)=true->decide (b<=c)=true->decide (a<=c)=true:=λa b c h1 h2=>by
  simp only [decide_eq_true_eq] at h1 h2 ⊢
  omega
 have to:∀ a b:Int,(decide (a<=b)||decide (b<=a))=true:=λa b=>by
  simp only [Bool.or_eq_true,decide_eq_true_eq]
  omega
 refine List.Perm.eq_of_pairwise (le:=λa b=>decide (a<=b)=true) (λa b _ _ h1 h2=>?_) (List.pairwise_mergeSort tr to _) (List.pairwise_mergeSort tr to _) (((cx' xs).trans h).trans (cx' ys).symm)
 simp only [decide_eq_true_eq] at h1 h2
 omega
theorem iG' (xs:List Int):sortD (xs.map D.int)=(sortI xs).map D.int:=by
 unfold sortD sortI
 refine (List.map_mergeSort λa _ b _=>?_).symm
 unfold leD
 rw [c3']
 by_cases h:a<=b
 ·rw [decide_eq_true h,decide_eq_false (by omega)];rfl
 ·rw [decide_eq_false h,decide_eq_true (by omega)];rfl
theorem oX' {xs:List Int}:depA (xs.map D.int)<=0:=bx' λd hd=>by
 obtain ⟨n,_,rfl⟩:=List.mem_map.mp hd
 simp [dep]
theorem j1' {xs:List Int} (h:xs.length < 64):sortF [.lst (xs.map D.int)]=some ((sortI xs).map D.int):=by
 rw [jT',iG']
 refine ⟨by simpa using h,?_,by have:=oX' (xs:=xs);omega,.inl ?_⟩
 ·unfold cmAll
  rw [List.all_eq_true]
  intro a ha
  rw [List.all_eq_true]
  intro b hb
  obtain ⟨i,_,rfl⟩:=List.mem_map.mp ha
  obtain ⟨j,_,rfl⟩:=List.mem_map.mp hb
  rfl
 ·rw [List.all_eq_true]
  intro a ha
  obtain ⟨i,_,rfl⟩:=List.mem_map.mp ha
  rfl
theorem bH' {α β:Type}{f:α->β}:∀ {l:List α},l.Nodup->(∀ x∈l,∀ y∈l,f x=f y->x=y)->(l.map f).Nodup
 | [],_,_=>List.nodup_nil
 | x::l,hn,h=>by
  rw [List.nodup_cons] at hn
  rw [List.map_cons,List.nodup_cons]
  refine ⟨λm=>?_,bH' hn.2 λy hy z hz=>h y (List.mem_cons_of_mem _ hy) z (List.mem_cons_of_mem _ hz)⟩
  obtain ⟨y,hy,e⟩:=List.mem_map.mp m
  have:=h y (List.mem_cons_of_mem _ hy) x List.mem_cons_self e
  subst this
  exact hn.1 hy
def nbL (rs:List (Int×Int)) (h:Int):List Int:=(rs.filter λr=>decide (h=r.1)||decide (h=r.2)).map λr=>if r.1=h then r.2 else r.1
def nbs (rs:List (Int×Int)) (h:Int):List Int:=sortI (nbL rs h)
section
variable {n:Nat}{rs:List (Int×Int)}{rk:Int->Nat}
theorem Web.nb0 (W:Web n rs rk) (h u:Int):u∈nbL rs h↔Adj rs h u:=by
 unfold nbL Adj
 rw [List.mem_map]
 constructor
 ·rintro ⟨⟨a,b⟩,hr,e⟩
  rw [List.mem_filter] at hr
  obtain ⟨hr,c⟩:=hr
  simp only [Bool.or_eq_true,decide_eq_true_eq] at c
  simp only at e
  by_cases q:a=h
  ·rw [if_pos q] at e;subst q;subst e;exact .inl hr
  ·rw [if_neg q] at e;subst e
   rcases c with c | c
   ·exact absurd c.symm q
   ·subst c;exact .inr hr
 ·rintro (m | m)
  ·exact ⟨(h,u),List.mem_filter.mpr ⟨m,by simp⟩,if_pos rfl⟩
  ·have:=W.lt _ m
   exact ⟨(u,h),List.mem_filter.mpr ⟨m,by simp⟩,if_neg (show ¬ u=h by have:=this.2.1;simp only at this;omega)⟩
theorem Web.nb0_nodup (W:Web n rs rk) (h:Int):(nbL rs h).Nodup:=by
 unfold nbL
 refine bH' (List.Pairwise.filter _ W.nd) λx hx y hy e=>?_
 obtain ⟨a,b⟩:=x
 obtain ⟨c,d⟩:=y
 rw [List.mem_filter] at hx hy
 have l1:=W.lt _ hx.1
 have l2:=W.lt _ hy.1
 have h1:=hx.2
 have h2:=hy.2
 simp only [Bool.or_eq_true,decide_eq_true_eq] at h1 h2
 simp only at e l1 l2
 rw [Prod.mk.injEq]
 split at e<;>split at e<;>omega
theorem Web.nb (W:Web n rs rk) (h u:Int):u∈nbs rs h↔Adj rs h u:=by
 unfold nbs
 rw [(cx' _).mem_iff]
 exact W.nb0 h u
theorem Web.nb_nodup (W:Web n rs rk) (h:Int):(nbs rs h).Nodup:=by
 unfold nbs
 exact (cx' _).symm.nodup (W.nb0_nodup h)
theorem Web.in_n (W:Web n rs rk){a b:Int} (h:Adj rs a b):0<=a/\a < n/\0<=b/\b < n:=by
 rcases h with h | h
 ·have:=W.lt _ h;simp only at this;omega
 ·have:=W.lt _ h;simp only at this;omega
theorem bI' {m:Nat}{l:List Int} (hn:l.Nodup) (h:∀ x∈l,0<=x/\x < m):l.length<=m:=by
 have:=eo' l ((List.range m).map λk:Nat=>(k:Int)) hn λx hx=>by
  obtain ⟨h1,h2⟩:=h x hx
  exact List.mem_map.mpr ⟨x.toNat,List.mem_range.mpr (by omega),by omega⟩
 simpa using this
theorem Web.nb_len (W:Web n rs rk) (h:Int):(nbL rs h).length<=n:=bI' (W.nb0_nodup h) λx hx=>by
 have:=W.in_n ((W.nb0 h x).mp hx)
 omega
theorem Web.rs_len (W:Web n rs rk):rs.length<=64:=by
 have:=eo' rs ((List.range 64).map λk:Nat=>(((k / 8:Nat):Int),((k % 8:Nat):Int))) W.nd λr hr=>by
  have:=W.lt r hr
  have:=W.n8
  refine List.mem_map.mpr ⟨r.1.toNat*8+r.2.toNat,List.mem_range.mpr (by omega),?_⟩
  obtain ⟨a,b⟩:=r
  simp only at *
  rw [Prod.mk.injEq]
  omega
 simpa using this
end
theorem j2' {n:Nat}{rs:List (Int×Int)}{h:Int} (h0:0<=h) (h1:h < n):cvF a2' [webD n rs,.int h]=some .non:=by
 refine c5' rfl λKE _ k2=>?_
 rw [c6']
 simp [h0,h1]
 exact k2 _ rfl ⟨_,rfl⟩
theorem aE' {a b:Int}:deq (.int a) (.int b)=decide (a=b):=by
 rw [deq]
 by_cases h:a=b<;>simp [h]
theorem bJ' {a b:Int}:(a == b)=decide (a=b):=by
 by_cases h:a=b<;>simp [h]
theorem oY' {a b:Int}:(a == b)=decide (b=a):=by
 by_cases h:b=a
 ·simp [h]
 ·have:¬ a=b:=λz=>h z.symm
  simp [h,this]
theorem qk' {h:Int}{r:Int×Int}:inF false (.int h) (pairD r)=some (.bl (decide (h=r.1)||decide (h=r.2))):=by
 unfold inF
 simp [pairD,seqI,deq,dep,depA,oY']
theorem sk' {n:Nat}{rs:List (Int×Int)}{rk:Int->Nat} (W:Web n rs rk){h:Int} (h0:0<=h) (h1:h < n):coF bv' [webD n rs,.int h]=some ((nbs rs h).map D.int):=by
 have e1:=j2' (rs:=rs) h0 h1
 have l1:=W.rs_len
 have l2:=W.nb_len h
 have l3:=W.n8
 have e2:sortF [.lst ((nbL rs h).map D.int)]=some ((nbs rs h).map D.int):=j1' (by omega)
 refine pp' rfl λKE k1=>?_
 rw [c7']
 refine af' ?_;rintro K hK -
 simp [e1]
 refine hK _ ?_
 simp
 refine dm' rs pairD (λr=>decide (h=r.1)||decide (h=r.2)) (λr=>.int (if r.1=h then r.2 else r.1)) ?_
 simp [qk',dep,aE']
 refine ⟨by omega,λa b _ _=>by split<;>intro z<;>first | exact absurd (by assumption) z | exact absurd z (by assumption),?_⟩
 have e3:List.map (λr=>D.int (if r.1=h then r.2 else r.1)) (List.filter (λr=>decide (h=r.1)||decide (h=r.2)) rs)=(nbL rs h).map D.int:=by
  unfold nbL
  rw [List.map_map];rfl
 rw [e3,e2]
 simp
 exact k1 _ ⟨_,rfl⟩
def cameD:Option Int->D
 | none=>.non
 | some c=>.int c
theorem eg' {u:Int}{c:Option Int}:deq (.int u) (cameD c)=decide (some u=c):=by
 cases c with
 | none=>simp [cameD,deq]
 | some c =>
  simp only [cameD,aE']
  by_cases h:u=c<;>simp [h]
theorem Web.wl_len {n:Nat}{rs:List (Int×Int)}{rk:Int->Nat} (W:Web n rs rk) (k:Nat) (c:Option Int) (h:Int) (h0:0<=h) (h1:h < n):(Wl (nbs rs) k c h).length<=n:=bI' (W.nodup W.nb W.nb_nodup k c h) λx hx=>by
 refine j0' (N:=nbs rs) (λv=>0<=v/\v < n) none (λv u _ hu _=>?_) k c h ⟨h0,h1⟩ (λv _ z=>by cases z) x hx
 have:=W.in_n ((W.nb v u).mp hu)
 omega
def nearL (rs:List (Int×Int)) (h:Int):List Int:=(rs.filter λr=>decide (r.1=h)).map (·.2)++(rs.filter λr=>decide (r.2=h)).map (·.1)
theorem j3' {rs:List (Int×Int)}{h u:Int}:u∈nearL rs h↔Adj rs h u:=by
 unfold nearL Adj
 rw [List.mem_append,List.mem_map,List.mem_map]
 constructor
 ·rintro (⟨⟨a,b⟩,hr,rfl⟩ | ⟨⟨a,b⟩,hr,rfl⟩)
  ·rw [List.mem_filter,decide_eq_true_eq] at hr
   obtain ⟨hr,rfl⟩:=hr
   exact .inl hr
  ·rw [List.mem_filter,decide_eq_true_eq] at hr
   obtain ⟨hr,rfl⟩:=hr
   exact .inr hr
 ·rintro (m | m)
  ·exact .inl ⟨_,List.mem_filter.mpr ⟨m,by simp⟩,rfl⟩
  ·exact .inr ⟨_,List.mem_filter.mpr ⟨m,by simp⟩,rfl⟩
theorem Web.near_nodup {n:Nat}{rs:List (Int×Int)}{rk:Int->Nat} (W:Web n rs rk) (h:Int):(nearL rs h).Nodup:=by
 unfold nearL
 rw [List.nodup_append]
 refine ⟨bH' (List.Pairwise.filter _ W.nd) λx hx y hy e=>?_,bH' (List.Pairwise.filter _ W.nd) λx hx y hy e=>?_,λv hv u hu e=>?_⟩
 ·rw [List.mem_filter,decide_eq_true_eq] at hx hy
  exact Prod.ext (hx.2.trans hy.2.symm) e
 ·rw [List.mem_filter,decide_eq_true_eq] at hx hy
  exact Prod.ext e (hx.2.trans hy.2.symm)
 ·subst e
  obtain ⟨x,hx,rfl⟩:=List.mem_map.mp hv
  obtain ⟨y,hy,e⟩:=List.mem_map.mp hu
  rw [List.mem_filter,decide_eq_true_eq] at hx hy
  have:=W.lt x hx.1
  have:=W.lt y hy.1
  omega
theorem Web.near_eq {n:Nat}{rs:List (Int×Int)}{rk:Int->Nat} (W:Web n rs rk) (h:Int):sortI (nearL rs h)=nbs rs h :=
 oW' ((List.perm_ext_iff_of_nodup (W.near_nodup h) (W.nb0_nodup h)).mpr λu=>j3'.trans (W.nb0 h u).symm)
theorem ql' {n:Nat}{rs:List (Int×Int)}{rk:Int->Nat} (W:Web n rs rk) (h:Int):coF dV' [webD n rs,.int h]=some ((nbs rs h).map D.int):=by
 have l1:=W.rs_len
 have l2:=W.n8
 have l3:(nearL rs h).length<=n:=bI' (W.near_nodup h) λx hx=>by
  have:=W.in_n (j3'.mp hx)
  omega
 have e1:=j1' (xs:=nearL rs h) (by omega)
 rw [W.near_eq] at e1
 refine pp' rfl λKE k1=>?_
 rw [e4']
 refine af' ?_;rintro K hK -
 simp
 refine dn' rs pairD (λr=>decide (r.1=h)) (λr=>.int r.2) ?_
 simp [pairD,dep,aE']
 refine ⟨by omega,λa b _=>bJ',?_⟩
 refine dn' rs pairD (λr=>decide (r.2=h)) (λr=>.int r.1) ?_
 simp [pairD,dep,aE']
 have f1:=List.length_filter_le (λr:Int×Int=>decide (r.1=h)) rs
 have f2:=List.length_filter_le (λr:Int×Int=>decide (r.2=h)) rs
 refine ⟨by omega,λa b _=>bJ',by omega,hK _ ?_⟩
 have e2:List.map (λr:Int×Int=>D.int r.2) (List.filter (λr=>decide (r.1=h)) rs)++List.map (λr=>D.int r.1) (List.filter (λr=>decide (r.2=h)) rs)=(nearL rs h).map D.int:=by
  unfold nearL
  rw [List.map_append,List.map_map,List.map_map];rfl
 rw [e2]
 simp [e1]
 exact k1 _ ⟨_,rfl⟩
def keysI (kvs:List (Int×D)):List Int:=kvs.map (·.1)
theorem gp' {kvs:List (Int×D)}{k:Int}:(valD kvs k).isSome=decide (k∈keysI kvs):=by
 unfold keysI
 induction kvs with
 | nil=>simp [valD]
 | cons p kvs ih =>
  rw [valD]
  by_cases h:p.1=k
  ·rw [if_pos h];simp [h]
  ·rw [if_neg h,ih]
   have:¬ k=p.1:=λz=>h z.symm
   simp [this]
@[simp ↓] theorem s2' {i:Nat}{Γ:Gm}{Q:List (Int×D)->Gm->Prop}:wp (lookK i) Γ Q↔match Γ[i]? with
  | some (some (.dic kvs))=>Q kvs Γ
  | _=>False:=by
 unfold wp lookK
 rcases e:Γ[i]? with _ | _ | r
 ·simp
 ·simp
 ·cases r<;>simp<;>exact ⟨λ⟨_,_,⟨h1,h2⟩,q⟩=>by subst h1;subst h2;exact q,λq=>⟨_,_,⟨rfl,rfl⟩,q⟩⟩
@[simp ↓] theorem uc' {neg:Bool}{i:Nat}{gk:M D}{Γ:Gm}{Q:Bool->Gm->Prop}:wp (inK neg i gk) Γ Q↔wp gk Γ λd Γ1=>wp (lookK i) Γ1 λkvs Γ2=>wp (lft (inKF neg d kvs)) Γ2 Q:=by simp only [inK,aG']
@[simp ↓] theorem tz' {i:Nat}{gk:M D}{Γ:Gm}{Q:D->Gm->Prop}:wp (getK i gk) Γ Q↔wp (lookK i) Γ λ_ Γ0=>wp gk Γ0 λd Γ1=>wp (lookK i) Γ1 λkvs Γ2=>wp (lft (getKF d kvs)) Γ2 Q:=by simp only [getK,aG']
def SzK:Nat->D->Prop
 | 0,_=>False
 | k+1,.tup ds=>ds.length<=1000000/\∀ d∈ds,SzK k d
 | k+1,.lst ds=>ds.length<=1000000/\∀ d∈ds,SzK k d
 | _+1,_=>True
@[simp ↓] theorem ud' {α:Type}{F:D->Option α}{g:M D}{Γ:Gm}{Q:α->Gm->Prop}:wp (un1 F g) Γ Q↔wp g Γ λd Γ1=>wp (lft (F d)) Γ1 Q:=by simp [un1]
@[simp] theorem uz' {k:Ki}{d:D}:isiF k d=some (.bl (isiB k d)):=rfl
@[simp] theorem uA' {i:Int}:negI (.int i)=some (.int (-i)):=rfl
@[simp] theorem uB' {b:Bool}{d:D}:isNF b d .non=some (.bl (if b then !isN d else isN d)):=rfl
@[simp] theorem sm':isiB .iT .non=false:=rfl
@[simp] theorem sO' {x:Bool}:isiB .iT (.bl x)=true:=rfl
@[simp] theorem sn' {x:Int}:isiB .iT (.int x)=true:=rfl
@[simp] theorem so' {x:PySem.Str}:isiB .iT (.str x)=false:=rfl
@[simp] theorem sp' {x:List D}:isiB .iT (.tup x)=false:=rfl
@[simp] theorem sq' {x:List D}:isiB .iT (.lst x)=false:=rfl
@[simp] theorem sr':isiB .sT .non=false:=rfl
@[simp] theorem sP' {x:Bool}:isiB .sT (.bl x)=false:=rfl
@[simp] theorem ss' {x:Int}:isiB .sT (.int x)=false:=rfl
@[simp] theorem su' {x:PySem.Str}:isiB .sT (.str x)=true:=rfl
@[simp] theorem sv' {x:List D}:isiB .sT (.tup x)=false:=rfl
@[simp] theorem sw' {x:List D}:isiB .sT (.lst x)=false:=rfl
@[simp] theorem sx':isiB .bT .non=false:=rfl
@[simp] theorem sQ' {x:Bool}:isiB .bT (.bl x)=true:=rfl
@[simp] theorem sy' {x:Int}:isiB .bT (.int x)=false:=rfl
@[simp] theorem sz' {x:PySem.Str}:isiB .bT (.str x)=false:=rfl
@[simp] theorem sA' {x:List D}:isiB .bT (.tup x)=false:=rfl
@[simp] theorem sB' {x:List D}:isiB .bT (.lst x)=false:=rfl
@[simp] theorem sC':isiB .tT .non=false:=rfl
@[simp] theorem sR' {x:Bool}:isiB .tT (.bl x)=false:=rfl
@[simp] theorem sD' {x:Int}:isiB .tT (.int x)=false:=rfl
@[simp] theorem sE' {x:PySem.Str}:isiB .tT (.str x)=false:=rfl
@[simp] theorem sF' {x:List D}:isiB .tT (.tup x)=true:=rfl
@[simp] theorem sG' {x:List D}:isiB .tT (.lst x)=false:=rfl
@[simp] theorem sH':isiB .lT .non=false:=rfl
@[simp] theorem sS' {x:Bool}:isiB .lT (.bl x)=false:=rfl
@[simp] theorem sI' {x:Int}:isiB .lT (.int x)=false:=rfl
@[simp] theorem sJ' {x:PySem.Str}:isiB .lT (.str x)=false:=rfl
@[simp] theorem sK' {x:List D}:isiB .lT (.tup x)=false:=rfl
@[simp] theorem sL' {x:List D}:isiB .lT (.lst x)=true:=rfl
theorem g7' {xs:List D}:pairsD xs xs=xs.map λx=>.tup [x,x]:=by
 unfold pairsD
 induction xs with
 | nil=>rfl
 | cons x xs ih=>simp only [List.zip_cons_cons,List.map_cons,ih]
theorem h0':∀ {k:Nat}{d:D},SzK k d->cvF (bf' k) [d,d]=some (.bl true)
 | 0,_,h=>h.elim
 | k+1,d,h=>by
  rw [bf']
  cases d with
  | non=>rfl
  | bl b=>cases b<;>rfl
  | int i =>
   have e:cvF (fnD 2 2 (bP' (bf' k))) [.int i,.int i]=some (.bl (i == i)):=rfl
   rw [e,beq_self_eq_true]
  | str i =>
   have e:cvF (fnD 2 2 (bP' (bf' k))) [.str i,.str i]=some (.bl (i == i)):=rfl
   rw [e,beq_self_eq_true]
  | tup ds =>
   obtain ⟨h1,h2⟩:=h
   refine c5' rfl λKE k1 _=>?_
   rw [bP']
   refine af' ?_;rintro K hK -
   refine ⟨_,_,rfl,hK _ ?_⟩
   refine af' ?_;rintro K hK -
   refine ⟨_,_,rfl,hK _ ?_⟩
   refine af' ?_;rintro K hK -
   refine ⟨_,_,rfl,hK _ ?_⟩
   refine af' ?_;rintro K hK -
   refine ⟨_,_,rfl,hK _ ?_⟩
   simp [dep]
   refine dn' ds (λx=>.tup [x,x]) (λ_=>true) (λ_=>.bl true) ?_
   simp [g7']
   refine ⟨h1,λx hx=>?_,?_⟩
   ·simp [h0' (h2 x hx)]
   ·have e:allF [D.lst (List.map (λ_=>D.bl true) (List.filter (λ_=>true) ds))]=some (.bl true):=by
     rw [ee' (f:=λ_=>true)]
     simp
    rw [e]
    exact ⟨_,_,rfl,k1 _ ⟨_,rfl⟩⟩
  | lst ds =>
   obtain ⟨h1,h2⟩:=h
   refine c5' rfl λKE k1 _=>?_
   rw [bP']
   refine af' ?_;rintro K hK -
   refine ⟨_,_,rfl,hK _ ?_⟩
   refine af' ?_;rintro K hK -
   refine ⟨_,_,rfl,hK _ ?_⟩
   refine af' ?_;rintro K hK -
   refine ⟨_,_,rfl,hK _ ?_⟩
   refine af' ?_;rintro K hK -
   refine ⟨_,_,rfl,hK _ ?_⟩
   simp [dep]
   refine dn' ds (λx=>.tup [x,x]) (λ_=>true) (λ_=>.bl true) ?_
   simp [g7']
   refine ⟨h1,λx hx=>?_,?_⟩
   ·simp [h0' (h2 x hx)]
   ·have e:allF [D.lst (List.map (λ_=>D.bl true) (List.filter (λ_=>true) ds))]=some (.bl true):=by
     rw [ee' (f:=λ_=>true)]
     simp
    rw [e]
    exact ⟨_,_,rfl,k1 _ ⟨_,rfl⟩⟩
theorem fA' {kvs:List (Int×D)}{k:Int} (h:k∈keysI kvs):∃ d,valD kvs k=some d:=by
 have:=gp' (kvs:=kvs) (k:=k)
 rw [decide_eq_true h] at this
 exact Option.isSome_iff_exists.mp this
theorem e7' {kvs:List (Int×D)}{k:Int}{d:D} (h:valD kvs k=some d):(k,d)∈kvs:=by
 induction kvs with
 | nil=>cases h
 | cons p kvs ih =>
  rw [valD] at h
  by_cases e:p.1=k
  ·rw [if_pos e] at h
   cases h
   subst e
   exact List.mem_cons_self
  ·rw [if_neg e] at h
   exact List.mem_cons_of_mem _ (ih h)
theorem bN' {kvs:List (Int×D)}{k:Int}{d:D}:keysI (kvs++[(k,d)])=keysI kvs++[k]:=by simp [keysI]
@[simp] theorem tA' {l:List D}{d:D}:lastF (.lst (l++[d]))=some d:=by simp [lastF]
@[simp ↓] theorem tC' {i:Nat}{Γ:Gm}{Q:D->Gm->Prop}:wp (popV i) Γ Q↔isMut Γ i=true/\wp (look i) Γ λl Γ1=>wp (lft (lastF l)) Γ1 λd Γ2=>wp (wr i λds=>some ds.dropLast) Γ2 λ_ Γ3=>Q d Γ3:=by
 simp only [popV,dl',aG',dG']
@[simp ↓] theorem ue' {i:Nat}{F:List (Int×D)->Option (List (Int×D))}{Γ:Gm}{Q:Fl->Gm->Prop}:wp (wrK i F) Γ Q↔match Γ[i]? with
  | some (some (.dic kvs))=>∃ es,F kvs=some es/\Q .nx (Γ.set i (some (.dic es)))
  | _=>False:=by
 unfold wp wrK
 rcases e:Γ[i]? with _ | _ | r
 ·simp
 ·simp
 ·cases r with
  | dic kvs =>
   rcases he:F kvs with _ | es
   ·simp [he]
   ·simp [he]
    exact ⟨λ⟨_,_,⟨h1,h2⟩,q⟩=>by subst h1;subst h2;exact q,λq=>⟨_,_,⟨rfl,rfl⟩,q⟩⟩
  | val d=>simp
  | own d=>simp
  | bor d=>simp
  | fro d=>simp
@[simp ↓] theorem tD' {i:Nat}{gk gv:M D}{Γ:Gm}{Q:Fl->Gm->Prop}:wp (putK' i gk gv) Γ Q↔wp gv Γ λd Γ1=>wp (lookK i) Γ1 λ_ Γ2=>wp gk Γ2 λn Γ3=>wp (wrK i (putKF n d)) Γ3 Q:=by simp only [putK',aG']
structure BI (rs:List (Int×Int)) (c:Option Int) (h:Int) (Pv:Int->List Int->Prop) (kvs:List (Int×D)) (wl:List Int):Prop where
 nd:(keysI kvs).Nodup
 hin:h∈keysI kvs
 inW:∀ v∈keysI kvs,v∈Wl (nbs rs) 20 c h
 wlk:∀ v∈wl,v∈keysI kvs
 lst:∀ p∈kvs,∃ l:List Int,p.2=.lst (l.map D.int)/\l.length<=kvs.length/\(∀ x∈l,x∈keysI kvs)/\Pv p.1 l
theorem BI.add {n:Nat}{rs:List (Int×Int)}{rk:Int->Nat}{c:Option Int}{h:Int}{Pv:Int->List Int->Prop}{kvs:List (Int×D)}{wl l:List Int}{v u:Int} (W:Web n rs rk) (hc:∀ x,c=some x->Adj rs x h) (hm:mu rk c h < 20)
  (pv:∀ v p u,Pv v p->u∈nbs rs v->some u≠c->u∉p->Pv u (p++[u])) (b:BI rs c h Pv kvs wl) (hv:valD kvs v=some (.lst (l.map D.int))) (hu:u∈nbs rs v) (uc:some u≠c) (nu:u∉keysI kvs):BI rs c h Pv (kvs++[(u,.lst ((l++[u]).map D.int))]) (wl++[u]):=by
 have vm:=e7' hv
 have vk:v∈keysI kvs:=List.mem_map.mpr ⟨_,vm,rfl⟩
 refine ⟨?_,?_,λx hx=>?_,λx hx=>?_,λp hp=>?_⟩
 ·rw [bN',List.nodup_append]
  exact ⟨b.nd,by simp,λx hx y hy e=>nu (by rw [List.mem_singleton.mp hy] at e;rw [← e];exact hx)⟩
 ·rw [bN'];exact List.mem_append_left _ b.hin
 ·rw [bN'] at hx
  rcases List.mem_append.mp hx with hx | hx
  ·exact b.inW x hx
  ·rw [List.mem_singleton.mp hx]
   exact W.closed W.nb 20 c h hc hm v u (b.inW v vk) hu uc
 ·rw [bN']
  rcases List.mem_append.mp hx with hx | hx
  ·exact List.mem_append_left _ (b.wlk x hx)
  ·exact List.mem_append_right _ hx
 ·rw [bN',List.length_append]
  rcases List.mem_append.mp hp with hp | hp
  ·obtain ⟨l',e1,e2,e3,e4⟩:=b.lst p hp
   exact ⟨l',e1,Nat.le_add_right_of_le e2,λx hx=>List.mem_append_left _ (e3 x hx),e4⟩
  ·rw [List.mem_singleton.mp hp]
   obtain ⟨l',e1,e2,e3,e4⟩:=b.lst _ vm
   have:l'=l:=by
    have e1:l.map D.int=l'.map D.int:=by simpa using e1
    exact (List.map_inj_right (λx y z=>by cases z;rfl)).mp e1.symm
   subst this
   refine ⟨l'++[u],rfl,by simp;omega,λx hx=>?_,pv v l' u e4 hu uc λm=>nu (e3 u m)⟩
   rcases List.mem_append.mp hx with hx | hx
   ·exact List.mem_append_left _ (e3 x hx)
   ·exact List.mem_append_right _ hx
theorem ma' {n:Nat}{rs:List (Int×Int)}{rk:Int->Nat} (W:Web n rs rk){c:Option Int}{h:Int} (h0:0<=h) (h1:h < n) (hc:∀ x,c=some x->Adj rs x h) (hm:mu rk c h < 20) (Pv:Int->List Int->Prop) (p0:Pv h [h])
  (pv:∀ v p u,Pv v p->u∈nbs rs v->some u≠c->u∉p->Pv u (p++[u])) :
  ∃ kvs,ckF bZ' [webD n rs,.int h,cameD c]=some kvs/\(keysI kvs).Perm (Wl (nbs rs) 20 c h)/\∀ v d,valD kvs v=some d->∃ l:List Int,d=.lst (l.map D.int)/\l.length<=8/\Pv v l:=by
 have l8:=W.n8
 have inn:∀ x∈Wl (nbs rs) 20 c h,0<=x/\x < n:=λx hx=>by
  refine j0' (N:=nbs rs) (λv=>0<=v/\v < n) none (λv u _ hu _=>?_) 20 c h ⟨h0,h1⟩ (λv _ z=>by cases z) x hx
  have:=W.in_n ((W.nb v u).mp hu)
  omega
 have kl:∀ {kvs wl},BI rs c h Pv kvs wl->kvs.length<=n:=λ{kvs wl} b=>by
  have:=bI' (m:=n) b.nd λx hx=>inn x (b.inW x hx)
  simpa [keysI] using this
 have key:wpF bZ' ([webD n rs,D.int h,cameD c].map .val) λr _=>∃ kvs,r=.dic kvs/\(keysI kvs).Perm (Wl (nbs rs) 20 c h)/\∀ v d,valD kvs v=some d->∃ l:List Int,d=.lst (l.map D.int)/\l.length<=8/\Pv v l:=by
  refine cR' rfl λKE hE _=>?_
  rw [dN']
  refine af' ?_;rintro K hK -
  refine ⟨_,_,rfl,hK _ ?_⟩
  refine af' ?_;rintro K hK -
  refine ⟨_,_,rfl,hK _ ?_⟩
  show wp _ [some (.val (webD n rs)),some (.val (.int h)),some (.val (cameD c)),some (.dic [(h,.lst [.int h])]),some (.own [.int h]),none,none] _
  refine af' ?_;rintro K hK -
  refine nK' (J:=λm Γ=>∃ (kvs:List (Int×D)) (wl:List Int) (x5 x6:Option R),Γ=[some (.val (webD n rs)),some (.val (.int h)),some (.val (cameD c)),some (.dic kvs),some (.own (wl.map D.int)),x5,x6] ∧
   BI rs c h Pv kvs wl/\(∀ v∈keysI kvs,v∉wl->∀ u∈nbs rs v,some u≠c->u∈keysI kvs)/\2*(n - kvs.length)+wl.length<=m/\m<=16) ?_ 100 (2*n) _ (by omega) ?_
  ·rintro m Γ ⟨kvs,wl,x5,x6,rfl,b,clo,fuel,m16⟩
   rcases List.eq_nil_or_concat wl with rfl | ⟨wl',v,rfl⟩
   ·simp [isMut,R.mut,dep,depA,deq,deqA]
    refine hK _ ?_
    refine ⟨_,_,rfl,?_⟩
    refine hE _ _ ⟨_,rfl,kvs,rfl,?_,λv d hv=>?_⟩
    ·refine (List.perm_ext_iff_of_nodup b.nd (W.nodup W.nb W.nb_nodup 20 c h)).mpr λv=>W.just W.nb hc hm (S:=λv=>v∈keysI kvs) b.hin (λv u hv hu ne=>clo v hv (by simp) u hu ne) b.inW v
    ·obtain ⟨l,e1,e2,_,e4⟩:=b.lst _ (e7' hv)
     have:=kl b
     exact ⟨l,e1,by omega,e4⟩
   ·have vk:v∈keysI kvs:=b.wlk v (by simp)
    obtain ⟨d,hd⟩:=fA' vk
    obtain ⟨l,e1,e2,e3,e4⟩:=b.lst _ (e7' hd)
    simp only at e1
    subst e1
    have vn:=inn v (b.inW v vk)
    have nr:=ql' W v
    have ne:deq (.lst ((wl'.concat v).map D.int)) (.lst [])=false:=by
     rw [deq]
     cases wl'<;>simp [deqA]
    rw [List.concat_eq_append,List.length_append,List.length_singleton] at fuel
    obtain ⟨m',rfl⟩:∃ m',m=m'+1:=⟨m - 1,by omega⟩
    simp [isMut,R.mut,dep]
    refine ⟨.inr (by simp [depA]),λK1 nx _ _ _=>?_⟩
    refine af' ?_;rintro K2 hK2 -
    simp [isMut,R.mut]
    refine hK2 _ ?_;clear hK2
    simp [nr]
    have b':BI rs c h Pv kvs wl':=⟨b.nd,b.hin,b.inW,λx hx=>b.wlk x (by simp [hx]),b.lst⟩
    refine bF' (J:=λi Γ=>∃ (kv:List (Int×D)) (w:List Int) (x6:Option R),Γ=[some (.val (webD n rs)),some (.val (.int h)),some (.val (cameD c)),some (.dic kv),some (.own (w.map D.int)),some (.val (.int v)),x6] ∧
     BI rs c h Pv kv w/\v∈keysI kv/\(∀ x∈keysI kv,x≠v->x∉w->∀ u∈nbs rs x,some u≠c->u∈keysI kv)/\(∀ u∈(nbs rs v).take i,some u≠c->u∈keysI kv)/\2*(n - kv.length)+w.length<=m') ?_ ?_ ?_
    ·exact ⟨kvs,wl',_,rfl,b',vk,λx hx xv xw=>clo x hx (by simp [xw,xv]),by simp,by omega⟩
    ·rintro i d Γ hd ⟨kv,w,x6,rfl,b,vk,clo,tk,fuel⟩ KL hnx - - -
     rw [List.getElem?_map,Option.map_eq_some_iff] at hd
     obtain ⟨u,hu,rfl⟩:=hd
     have tks:(nbs rs v).take (i+1)=(nbs rs v).take i++[u]:=by rw [List.take_succ,hu];rfl
     have um:=List.mem_of_getElem? hu
     rw [tks] at hnx
     obtain ⟨d,hd⟩:=fA' vk
     obtain ⟨l,e1,e2,e3,e4⟩:=b.lst _ (e7' hd)
     simp only at e1
     subst e1
     have kn:=kl b
     refine ⟨_,_,rfl,?_⟩
     show wp _ [some (.val (webD n rs)),some (.val (.int h)),some (.val (cameD c)),some (.dic kv),some (.own (w.map D.int)),some (.val (.int v)),some (.val (.int u))] _
     by_cases uc:some u=c
     ·simp [dep,eg',uc]
      refine hnx _ ⟨kv,w,_,rfl,b,vk,clo,λx hx xc=>?_,fuel⟩
      rcases List.mem_append.mp hx with hx | hx
      ·exact tk x hx xc
      ·rw [List.mem_singleton.mp hx] at xc;exact absurd uc xc
     ·by_cases uk:u∈keysI kv
      ·have e5:inKF true (.int u) kv=some false:=by
        unfold inKF
        have:=gp' (kvs:=kv) (k:=u)
        rw [decide_eq_true uk] at this
        simp [this]
       simp [dep,eg',uc,e5]
       refine hnx _ ⟨kv,w,_,rfl,b,vk,clo,λx hx xc=>?_,fuel⟩
       rcases List.mem_append.mp hx with hx | hx
       ·exact tk x hx xc
       ·rw [List.mem_singleton.mp hx];exact uk
      ·have vn:(valD kv u).isSome=false:=by rw [gp'];exact decide_eq_false uk
       have e5:inKF true (.int u) kv=some true:=by
        unfold inKF
        simp [vn]
       have badd:=BI.add W hc hm pv b hd um uc uk
       have kn2:=kl badd
       rw [List.length_append,List.length_singleton] at kn2
       have e6:putKF (.int u) (.lst ((l++[u]).map D.int)) kv=some (kv++[(u,.lst ((l++[u]).map D.int))]):=by
        unfold putKF
        have:(valD kv u).isNone=true:=by cases q:valD kv u<;>simp [q] at vn ⊢
        simp only
        rw [if_pos ⟨this,by unfold lim;omega⟩]
       simp [dep,eg',uc,e5]
       have e7:getKF (.int v) kv=some (.lst (l.map D.int)):=hd
       rw [List.map_append] at e6
       simp only [List.map_cons,List.map_nil] at e6
       refine af' ?_;rintro K2 hK2 -
       simp [e7,e6]
       refine ⟨by omega,hK2 _ ?_⟩;clear hK2
       simp [isMut,R.mut]
       have wl2:w.length<=100:=by omega
       refine ⟨by omega,hnx _ ⟨_,w++[u],_,by rw [List.map_append];rfl,by rw [List.map_append] at badd;exact badd,?_,?_,?_,?_⟩⟩
       ·rw [bN'];exact List.mem_append_left _ vk
       ·intro x hx xv xw y hy yc
        rw [bN'] at hx ⊢
        rcases List.mem_append.mp hx with hx | hx
        ·exact List.mem_append_left _ (clo x hx xv (λz=>xw (List.mem_append_left _ z)) y hy yc)
        ·exact absurd (List.mem_append_right _ hx) xw
       ·intro x hx xc
        rw [bN']
        rcases List.mem_append.mp hx with hx | hx
        ·exact List.mem_append_left _ (tk x hx xc)
        ·exact List.mem_append_right _ hx
       ·rw [List.length_append,List.length_append,List.length_singleton,List.length_singleton];omega
    ·rintro Γ ⟨kv,w,x6,rfl,b,vk,clo,tk,fuel⟩
     rw [List.length_map,List.take_length] at tk
     refine nx _ kv w _ _ rfl b (λx hx xw u hu uc=>?_) fuel (by omega)
     by_cases xv:x=v
     ·subst xv;exact tk u hu uc
     ·exact clo x hx xv xw u hu uc
  ·refine ⟨_,[h],none,none,rfl,⟨?_,?_,?_,?_,?_⟩,?_,?_,?_⟩
   ·simp [keysI]
   ·simp [keysI]
   ·intro v hv;simp [keysI] at hv;subst hv;exact dr'
   ·intro v hv;simp [keysI] at hv ⊢;exact hv
   ·intro p hp;simp at hp;subst hp;exact ⟨[h],rfl,by simp,by simp [keysI],p0⟩
   ·intro v hv hn;simp [keysI] at hv;simp [hv] at hn
   ·simp;have:=W.n1;omega
   ·omega
 obtain ⟨r,rs',e,kvs,rfl,hp⟩:=key
 exact ⟨kvs,by unfold ckF;rw [e],hp⟩
def mkR (a b:Int):Int×Int:=(if b < a then b else a,if b > a then b else a)
theorem et' {a b:Int} (h:a≠b):(mkR a b=(a,b)/\a < b)\/(mkR a b=(b,a)/\b < a):=by
 unfold mkR
 by_cases l:b < a
 ·exact .inr ⟨by rw [if_pos l,if_neg (by omega)],l⟩
 ·exact .inl ⟨by rw [if_neg l,if_pos (by omega)],by omega⟩
structure LOk (m:Nat) (L:List (Nat×Nat)):Prop where
 inc:L.Pairwise λp q=>p.1 < q.1
 ok:∀ q∈L,1<=q.1/\q.1 < m/\q.2 < q.1
theorem nP' {L:List (Nat×Nat)} (h:L.Pairwise λp q=>p.1 < q.1){p q:Nat×Nat} (hp:p∈L) (hq:q∈L) (e:p.1=q.1):p=q:=by
 induction L with
 | nil=>cases hp
 | cons x L ih =>
  rw [List.pairwise_cons] at h
  rcases List.mem_cons.mp hp with hp' | hp'<;>rcases List.mem_cons.mp hq with hq' | hq'
  ·rw [hp',hq']
  ·have:=h.1 q hq';rw [← hp'] at this;omega
  ·have:=h.1 p hp';rw [← hq'] at this;omega
  ·exact ih h.2 hp' hq'
def atO (os:List Int) (k:Nat):Int:=os.getD k 0
def roadsO (os:List Int) (L:List (Nat×Nat)):List (Int×Int):=L.map λq=>mkR (atO os q.1) (atO os q.2)
section
variable {os:List Int}{m:Nat}{L:List (Nat×Nat)}
theorem j4' {k:Nat} (h:k < os.length):atO os k=os[k]:=by
 unfold atO
 rw [List.getD_eq_getElem?_getD,List.getElem?_eq_getElem h];rfl
theorem c9' (nd:os.Nodup){k:Nat} (h:k < os.length):os.idxOf (atO os k)=k:=by
 rw [j4' h];exact nd.idxOf_getElem k h
theorem cy' (nd:os.Nodup){j k:Nat} (hj:j < os.length) (hk:k < os.length) (e:atO os j=atO os k):j=k:=by
 have h1:=c9' nd hj
 rw [e,c9' nd hk] at h1
 exact h1.symm
theorem g8' (hl:os.length=m) (nd:os.Nodup) (ok:LOk m L){rs:List (Int×Int)} (hp:rs.Perm (roadsO os L)){x y:Int} (h:Adj rs x y):∃ q∈L,(x=atO os q.1/\y=atO os q.2)\/(x=atO os q.2/\y=atO os q.1):=by
 have go:∀ a b,(a,b)∈rs->∃ q∈L,(a=atO os q.1/\b=atO os q.2)\/(a=atO os q.2/\b=atO os q.1):=λa b h=>by
  rw [hp.mem_iff] at h
  obtain ⟨q,hq,e⟩:=List.mem_map.mp h
  have o:=ok.ok q hq
  have ne:atO os q.1≠atO os q.2:=λz=>by have:=cy' nd (by omega) (by omega) z;omega
  refine ⟨q,hq,?_⟩
  rcases et' ne with ⟨e1,_⟩ | ⟨e1,_⟩<;>rw [e1] at e<;>cases e
  ·exact .inl ⟨rfl,rfl⟩
  ·exact .inr ⟨rfl,rfl⟩
 rcases h with h | h
 ·exact go x y h
 ·obtain ⟨q,hq,z⟩:=go y x h
  exact ⟨q,hq,z.elim (λz=>.inr ⟨z.2,z.1⟩) λz=>.inl ⟨z.2,z.1⟩⟩
theorem rO' (hl:os.length=m) (nd:os.Nodup) (rng:∀ x∈os,0<=x/\x < m) (ok:LOk m L) (m1:1<=m) (m8:m<=8){rs:List (Int×Int)} (hp:rs.Perm (roadsO os L)):Web m rs λv=>os.idxOf v:=by
 have inn:∀ k,k < m->0<=atO os k/\atO os k < m:=λk hk=>by
  rw [j4' (by omega)];exact rng _ (List.getElem_mem _)
 have nq:∀ q∈L,atO os q.1≠atO os q.2:=λq hq z=>by
  have o:=ok.ok q hq
  have:=cy' nd (by omega) (by omega) z
  omega
 refine ⟨m1,m8,λr hr=>?_,hp.symm.nodup (bH' (ok.inc.imp λh e=>by rw [e] at h;exact absurd h (Nat.lt_irrefl _)) λp hpm q hqm e=>?_),λa b h=>?_,λa b h=>?_,λv a b ha hb la lb=>?_⟩
 ·rw [hp.mem_iff] at hr
  obtain ⟨q,hq,rfl⟩:=List.mem_map.mp hr
  have o:=ok.ok q hq
  have i1:=inn q.1 (by omega)
  have i2:=inn q.2 (by omega)
  rcases et' (nq q hq) with ⟨e,l⟩ | ⟨e,l⟩<;>rw [e]<;>simp only<;>omega
 ·have o:=ok.ok p hpm
  have o':=ok.ok q hqm
  refine nP' ok.inc hpm hqm ?_
  rcases et' (nq p hpm) with ⟨e1,_⟩ | ⟨e1,_⟩<;>rcases et' (nq q hqm) with ⟨e2,_⟩ | ⟨e2,_⟩<;>rw [e1,e2,Prod.mk.injEq] at e
  ·exact cy' nd (by omega) (by omega) e.1
  ·have h1:=cy' nd (by omega) (by omega) e.1
   have h2:=cy' nd (by omega) (by omega) e.2
   omega
  ·have h1:=cy' nd (by omega) (by omega) e.1
   have h2:=cy' nd (by omega) (by omega) e.2
   omega
  ·exact cy' nd (by omega) (by omega) e.2
 ·obtain ⟨q,hq,z⟩:=g8' hl nd ok hp h
  have o:=ok.ok q hq
  rcases z with ⟨rfl,rfl⟩ | ⟨rfl,rfl⟩<;>rw [c9' nd (by omega),c9' nd (by omega)]<;>omega
 ·obtain ⟨q,hq,z⟩:=g8' hl nd ok hp h
  have o:=ok.ok q hq
  rcases z with ⟨rfl,rfl⟩ | ⟨rfl,rfl⟩<;>rw [c9' nd (by omega)]<;>omega
 ·obtain ⟨q,hq,z⟩:=g8' hl nd ok hp ha
  obtain ⟨q',hq',z'⟩:=g8' hl nd ok hp hb
  have o:=ok.ok q hq
  have o':=ok.ok q' hq'
  have e1:v=atO os q.1/\a=atO os q.2:=by
   rcases z with z | ⟨rfl,rfl⟩
   ·exact z
   ·rw [c9' nd (by omega),c9' nd (by omega)] at la;omega
  have e2:v=atO os q'.1/\b=atO os q'.2:=by
   rcases z' with z' | ⟨rfl,rfl⟩
   ·exact z'
   ·rw [c9' nd (by omega),c9' nd (by omega)] at lb;omega
  have:=nP' ok.inc hq hq' (cy' nd (by omega) (by omega) (e1.1.symm.trans e2.1))
  subst this
  rw [e1.2,e2.2]
end
@[simp ↓] theorem tE' {i:Nat}{t:M (List D)}{Γ:Gm}{Q:Fl->Gm->Prop}:wp (insS i t) Γ Q↔isMut Γ i=true/\wp t Γ λds Γ1=>wp (wr i (insF ds)) Γ1 λ_ Γ2=>Q .nx Γ2:=by
 simp only [insS,dl',aG',dG']
theorem rP' {n:Nat}{d:D}{ds:List D} (h:n<=ds.length) (l:ds.length < 1000):insF [.int n,d] ds=some (ds.take n++d::ds.drop n):=by
 unfold insF
 dsimp only
 rw [if_pos ⟨by omega,by omega,by unfold lim;omega⟩,Int.toNat_natCast]
theorem oZ' {c:List D}{m:Nat}{Q:R->List D->Prop} (hc:PotOk c) (hm:m<=8) (k:∀ (os:List Int) c',os.length=m->os.Nodup->(∀ x∈os,0<=x/\x < m)->PotOk c'->Q (.val (.lst (os.map D.int))) c'):wpB dy' c [.int m] Q:=by
 refine cS' rfl λKE hE _=>?_
 rw [ez']
 refine af' ?_;rintro K hK -
 refine ⟨_,_,rfl,hK _ ?_⟩
 show wp _ [some (.bor c),some (.val (.int m)),some (.own []),none] _
 refine af' ?_;rintro K hK -
 simp
 refine ⟨by omega,?_⟩
 refine bF' (J:=λi Γ=>∃ (c:List D) (os:List Int) (x:Option R),PotOk c/\os.length=i/\os.Nodup/\(∀ x∈os,0<=x/\x < i)/\Γ=[some (.bor c),some (.val (.int m)),some (.own (os.map D.int)),x]) ⟨c,[],none,hc,rfl,List.nodup_nil,by simp,rfl⟩ ?_ ?_
 ·rintro i d Γ hd ⟨c,os,x,hc,hl,nd,rg,rfl⟩ KL hnx - - -
  obtain ⟨rfl,hi⟩:=dt' hd
  simp [isMut,R.mut]
  refine aF' hc (by omega) (by omega) λn c' hn1 hn2 hc'=>?_
  obtain ⟨n,rfl⟩:=Int.eq_ofNat_of_zero_le hn1
  have e1:=rP' (n:=n) (d:=.int i) (ds:=os.map D.int) (by simp;omega) (by simp;omega)
  simp [e1]
  refine hnx _ ⟨c',os.take n++(i:Int)::os.drop n,some (.val (.int i)),hc',?_,?_,?_,by simp⟩
  ·simp;omega
  ·have pm:(os.take n++(i:Int)::os.drop n).Perm ((i:Int)::os):=by
    have:=List.perm_middle (a:=(i:Int)) (l₁:=os.take n) (l₂:=os.drop n)
    rwa [List.take_append_drop] at this
   refine pm.symm.nodup (List.nodup_cons.mpr ⟨λz=>?_,nd⟩)
   have:=rg _ z
   omega
  ·intro x hx
   have:x=i\/x∈os:=by
    rcases List.mem_append.mp hx with z | z
    ·exact .inr (List.mem_of_mem_take z)
    ·rcases List.mem_cons.mp z with z | z
     ·exact .inl z
     ·exact .inr (List.mem_of_mem_drop z)
   rcases this with rfl | z
   ·omega
   ·have:=rg x z;omega
 ·rintro Γ ⟨c,os,x,hc,hl,nd,rg,rfl⟩
  refine hK _ ?_
  rw [du'] at hl rg
  simp
  exact hE _ _ _ ⟨_,rfl⟩ (k os c hl nd rg hc)
theorem cM' {p:Int×Int}:dep (pairD p)<=1:=by
 unfold pairD
 simp [dep,depA]
def sortP (ps:List (Int×Int)):List (Int×Int):=ps.mergeSort λp q=>leD (pairD p) (pairD q)
theorem mb' {ps:List (Int×Int)} (h:ps.length < 64):∃ rs:List (Int×Int),sortF [.lst (ps.map pairD)]=some (rs.map pairD)/\rs.Perm ps/\rs=sortP ps:=by
 refine ⟨ps.mergeSort λp q=>leD (pairD p) (pairD q),?_,List.mergeSort_perm _ _,rfl⟩
 rw [jT']
 ·unfold sortD
  exact congrArg some (List.map_mergeSort (s:=leD) (f:=pairD) λa _ b _=>rfl).symm
 ·refine ⟨by simpa using h,?_,?_,.inr (.inl ?_)⟩
  ·unfold cmAll
   rw [List.all_eq_true]
   intro a ha
   rw [List.all_eq_true]
   intro b hb
   obtain ⟨i,_,rfl⟩:=List.mem_map.mp ha
   obtain ⟨j,_,rfl⟩:=List.mem_map.mp hb
   simp [pairD,cmB,cmA]
  ·refine Nat.le_trans (bx' (n:=1) λd hd=>?_) (by omega)
   obtain ⟨p,_,rfl⟩:=List.mem_map.mp hd
   exact cM'
  ·rw [List.all_eq_true]
   intro a ha
   obtain ⟨i,_,rfl⟩:=List.mem_map.mp ha
   rfl
theorem nQ' {c:List D}{Q:R->List D->Prop} (hc:PotOk c) (k:∀ n rs rk c',Web n rs rk->(∃ ps,rs=sortP ps)->PotOk c'->Q (.val (webD n rs)) c'):wpB dJ' c [.int 8] Q:=by
 refine cS' rfl λKE hE _=>?_
 rw [fz']
 refine af' ?_;rintro K hK -
 simp [isMut,R.mut]
 refine aF' hc (by omega) (by omega) λoften c1 ho1 ho2 hc=>?_
 simp
 refine hK _ ?_
 refine af' ?_;rintro K hK -
 simp [isMut,R.mut]
 refine aF' hc (by omega) (by omega) λm0 c2 hm1 hm2 hc=>?_
 obtain ⟨m,hm⟩:∃ m:Nat,1+m0=m:=⟨(1+m0).toNat,by omega⟩
 simp [hm]
 refine hK _ ?_
 refine af' ?_;rintro K hK -
 simp [isMut,R.mut]
 refine oZ' hc (by omega) λos c3 hl nd rg hc=>?_
 simp
 refine hK _ ?_
 refine af' ?_;rintro K hK -
 refine ⟨_,_,rfl,hK _ ?_⟩
 show wp _ [some (.bor c3),some (.val (.int 8)),some (.val (.int often)),some (.val (.int m)),some (.val (.lst (os.map D.int))),some (.own []),none,none] _
 refine af' ?_;rintro K hK -
 simp
 refine ⟨by omega,?_⟩
 have atk:∀ j,j < m->atI (os.map D.int) ((j:Nat):Int)=some (.int (atO os j)):=λj hj=>by
  rw [DL.gW',j4' (by omega)]
  simp [hl,hj]
 refine bF' (J:=λi Γ=>∃ (c:List D) (L:List (Nat×Nat)) (x6 x7:Option R),PotOk c/\LOk (i+1) L/\L.length<=i/\Γ=[some (.bor c),some (.val (.int 8)),some (.val (.int often)),some (.val (.int m)),some (.val (.lst (os.map D.int))),some (.own ((roadsO os L).map pairD)),x6,x7]) ⟨c3,[],none,none,hc,⟨List.Pairwise.nil,by simp⟩,Nat.le_refl _,rfl⟩ ?_ ?_
 ·rintro i d Γ hd ⟨c,L,x6,x7,hc,ok,ll,rfl⟩ KL hnx - - -
  obtain ⟨rfl,hi⟩:=dt' hd
  have up:LOk (i+1+1) L:=⟨ok.inc,λq hq=>by have:=ok.ok q hq;omega⟩
  obtain ⟨kk,hkk⟩:∃ kk:Nat,(1:Int)+i=kk:=⟨1+i,by omega⟩
  rw [hkk]
  simp [isMut,R.mut]
  refine aF' hc (by omega) (by omega) λn1 c4 hn1 hn2 hc=>?_
  simp
  split
  ·refine af' ?_;rintro K hK -
   have a1:=atk kk (by omega)
   simp [isMut,R.mut,a1]
   refine aF' hc (by omega) (by omega) λj c5 hj1 hj2 hc=>?_
   obtain ⟨j,rfl⟩:=Int.eq_ofNat_of_zero_le hj1
   have a2:=atk j (by omega)
   simp [a2]
   refine hK _ ?_
   simp [isMut,R.mut,minTF,maxTF]
   have ln:(roadsO os L).length=L.length:=by simp [roadsO]
   refine ⟨by omega,hnx _ ⟨c5,L++[(kk,j)],some (.val (.int kk)),some (.val (.tup [.int (atO os kk),.int (atO os j)])),hc,⟨?_,?_⟩,by simp;omega,?_⟩⟩
   ·rw [List.pairwise_append]
    refine ⟨ok.inc,by simp,λp hp q hq=>?_⟩
    rw [List.mem_singleton.mp hq]
    have:=ok.ok p hp
    simp only
    omega
   ·intro q hq
    rcases List.mem_append.mp hq with hq | hq
    ·exact up.ok q hq
    ·rw [List.mem_singleton.mp hq]
     simp only
     omega
   ·simp [roadsO,mkR,pairD]
  ·exact hnx _ ⟨c4,L,_,_,hc,up,by omega,rfl⟩
 ·rintro Γ ⟨c,L,x6,x7,hc,ok,ll,rfl⟩
  refine hK _ ?_
  rw [du'] at ok ll
  have mm:m - 1+1=m:=by omega
  rw [mm] at ok
  obtain ⟨rs,e1,hp,hs⟩:=mb' (ps:=roadsO os L) (by simp [roadsO];omega)
  simp [e1]
  exact hE _ _ _ ⟨_,rfl⟩ (k m rs _ c (rO' hl nd rg ok (by omega) (by omega) hp) ⟨_,hs⟩ hc)
theorem lw' {α:Type}{a b:M α}{Γ:Gm}{Q:α->Gm->Prop} (h:wp a Γ Q):wp (altM a b) Γ Q:=by
 obtain ⟨x,Γ',e,q⟩:=h
 exact ⟨x,Γ',by unfold altM;rw [e],q⟩
theorem lx' {α:Type}{a b:M α}{Γ:Gm}{Q:α->Gm->Prop} (e:a Γ=none) (h:wp b Γ Q):wp (altM a b) Γ Q:=by
 obtain ⟨x,Γ',e',q⟩:=h
 exact ⟨x,Γ',by unfold altM;rw [e];exact e',q⟩
structure MixN (g:List R->Option (R×List R)) (ds:List D):Prop where
 co:coF g ds=none
 cv:cvF g ds=some .non
theorem j5' {g:List R->Option (R×List R)}{ds:List D}{o:Option (List D)} (h:wpF g (ds.map .val) λr _=>r=(match o with | some l=>R.own l | none=>R.val .non)):(∀ l,o=some l->coF g ds=some l)/\(o=none->MixN g ds):=by
 obtain ⟨r,rs',e,hr⟩:=h
 refine ⟨λl z=>?_,λz=>⟨?_,?_⟩⟩
 ·subst z;subst hr;unfold coF;rw [e]
 ·subst z;subst hr;unfold coF;rw [e]
 ·subst z;subst hr;unfold cvF;rw [e]
section
variable {g:List R->Option (R×List R)}{t:M (List D)}{Γ Γ1:Gm}{ds l:List D}{i:Nat}
theorem eI' {α:Type}{F:List D->Option α} (ht:t Γ=some (ds,Γ1)) (e:F ds=none):fn1 F t Γ=none:=by
 unfold fn1 bnd
 rw [ht]
 show lft (F ds) Γ1=none
 rw [e];rfl
theorem eM' {α:Type}{F:List D->Option α}{x:α} (ht:t Γ=some (ds,Γ1)) (e:F ds=some x):fn1 F t Γ=some (x,Γ1):=by
 unfold fn1 bnd
 rw [ht]
 show lft (F ds) Γ1=_
 rw [e];rfl
theorem j6' {α β:Type}{m:M α}{f:α->M β} (h:m Γ=none):bnd m f Γ=none:=by unfold bnd;rw [h]
theorem eh' {α β:Type}{m:M α}{f:α->M β}{x:α} (h:m Γ=some (x,Γ1)):bnd m f Γ=f x Γ1:=by unfold bnd;rw [h]
theorem j7' {Q:D->Gm->Prop} (ht:t Γ=some (ds,Γ1)) (e:coF g ds=some l) (q:Q (.lst l) Γ1):wp (altM (frz (fn1 (coF g) t)) (fn1 (cvF g) t)) Γ Q :=
 lw' ⟨_,_,by unfold frz;rw [eh' (eM' ht e)];rfl,q⟩
theorem j8' {Q:D->Gm->Prop} (ht:t Γ=some (ds,Γ1)) (e:MixN g ds) (q:Q .non Γ1):wp (altM (frz (fn1 (coF g) t)) (fn1 (cvF g) t)) Γ Q :=
 lx' (by unfold frz;exact j6' (eI' ht e.co)) ⟨_,_,eM' ht e.cv,q⟩
theorem qm' {kvs:List (Int×D)}{Q:Fl->Gm->Prop} (ht:t Γ=some (ds,Γ1)) (e:ckF g ds=some kvs) (hi:i < Γ1.length) (q:Q .nx (Γ1.set i (some (.dic kvs)))):wp (setK i (fn1 (ckF g) t)) Γ Q :=
 ⟨_,_,by unfold setK;rw [eh' (eM' ht e),eh' (show putS i (.dic kvs) Γ1=_ from if_pos hi)];rfl,q⟩
theorem o0' {Q:Fl->Gm->Prop} (ht:t Γ=some (ds,Γ1)) (e:coF g ds=some l) (q:Q (.rt (.own l)) Γ1):wp (altM (retO (fn1 (coF g) t)) (retS (fn1 (cvF g) t))) Γ Q :=
 lw' ⟨_,_,by unfold retO;rw [eh' (eM' ht e)];rfl,q⟩
theorem o1' {Q:Fl->Gm->Prop} (ht:t Γ=some (ds,Γ1)) (e:MixN g ds) (q:Q (.rt (.val .non)) Γ1):wp (altM (retO (fn1 (coF g) t)) (retS (fn1 (cvF g) t))) Γ Q :=
 lx' (by unfold retO;exact j6' (eI' ht e.co)) ⟨_,_,by unfold retS;rw [eh' (eM' ht e.cv)];rfl,q⟩
end
def Wy (N:Int->List Int):Nat->Option Int->Int->Int->Option (List Int)
 | 0,_,_,_=>none
 | k+1,c,h,t=>if h=t then some [h] else (((N h).filter λu=>decide (some u≠c)).findSome? λu=>Wy N k (some h) u t).map (h::·)
theorem gq' {α β:Type}{f:α->Option β}{r:β}{x:α}:∀ {l:List α},x∈l->f x=some r->(∀ y∈l,(f y).isSome=true->y=x)->l.findSome? f=some r
 | [],hx,_,_=>by cases hx
 | y::l,hx,hf,hu=>by
  rw [List.findSome?_cons]
  cases e:f y with
  | some r' =>
   have:=hu y List.mem_cons_self (by rw [e];rfl)
   subst this
   rw [e] at hf
   exact hf
  | none =>
   refine gq' ?_ hf λz hz=>hu z (List.mem_cons_of_mem _ hz)
   rcases List.mem_cons.mp hx with rfl | hx
   ·rw [e] at hf;cases hf
   ·exact hx
section
variable {n:Nat}{rs:List (Int×Int)}{rk:Int->Nat}{N:Int->List Int}
theorem fB':∀ {k:Nat}{c:Option Int}{h t:Int}{p:List Int},Wy N k c h t=some p->t∈Wl N k c h/\p.length<=k
 | 0,_,_,_,_,e=>by cases e
 | k+1,c,h,t,p,e=>by
  rw [Wy] at e
  by_cases ht:h=t
  ·rw [if_pos ht] at e
   cases e
   subst ht
   exact ⟨dr',by simp⟩
  ·rw [if_neg ht,Option.map_eq_some_iff] at e
   obtain ⟨q,e,rfl⟩:=e
   obtain ⟨u,hu,e⟩:=List.exists_of_findSome?_eq_some e
   rw [List.mem_filter,decide_eq_true_eq] at hu
   have:=fB' e
   exact ⟨dK'.mpr (.inr ⟨u,hu.1,hu.2,this.1⟩),by simp;exact this.2⟩
theorem Web.ext (W:Web n rs rk) (hN:∀ v u,u∈N v↔Adj rs v u):∀ (k:Nat) (c:Option Int) (h v u:Int) (p:List Int),(∀ x,c=some x->Adj rs x h)->mu rk c h < k->Wy N k c h v=some p->u∈N v->some u≠c->u∉p->Wy N k c h u=some (p++[u])
 | 0,_,_,_,_,_,_,_,e,_,_,_=>by cases e
 | k+1,c,h,v,u,p,hc,hm,e,hu,uc,up=>by
  have uni:∀ x y,x∈N h->y∈N h->u∈Wl N k (some h) x->u∈Wl N k (some h) y->x=y:=λx y hx hy=>W.apart hN ((hN h x).mp hx) ((hN h y).mp hy)
  rw [Wy] at e
  by_cases hv:h=v
  ·rw [if_pos hv] at e
   cases e
   subst hv
   have uh:¬ h=u:=λz=>up (by rw [z];simp)
   have au:=(hN h u).mp hu
   have lt:=W.mu_lt hc au uc
   rw [Wy,if_neg uh]
   have one:Wy N k (some h) u u=some [u]:=by
    cases k with
    | zero=>omega
    | succ k=>rw [Wy,if_pos rfl]
   have:(((N h).filter λu=>decide (some u≠c)).findSome? λx=>Wy N k (some h) x u)=some [u]:=gq' (x:=u) (List.mem_filter.mpr ⟨hu,by simpa using uc⟩) one λy hy s=>by
    obtain ⟨q,s⟩:=Option.isSome_iff_exists.mp s
    exact uni y u (List.mem_filter.mp hy).1 hu (fB' s).1 dr'
   rw [this];rfl
  ·rw [if_neg hv,Option.map_eq_some_iff] at e
   obtain ⟨q,e,rfl⟩:=e
   obtain ⟨x,hx,e⟩:=List.exists_of_findSome?_eq_some e
   have hx':=hx
   rw [List.mem_filter,decide_eq_true_eq] at hx'
   have ax:=(hN h x).mp hx'.1
   have lt:=W.mu_lt hc ax hx'.2
   have uh:u≠h:=λz=>up (by rw [z];simp)
   have uq:u∉q:=λz=>up (List.mem_cons_of_mem _ z)
   have ih:=W.ext hN k (some h) x v u q (λy z=>by cases z;exact ax) (by omega) e hu (λz=>uh (by cases z;rfl)) uq
   rw [Wy,if_neg (λz=>uh z.symm)]
   have:(((N h).filter λu=>decide (some u≠c)).findSome? λx=>Wy N k (some h) x u)=some (q++[u]):=gq' hx ih λy hy s=>by
    obtain ⟨q,s⟩:=Option.isSome_iff_exists.mp s
    exact uni y x (List.mem_filter.mp hy).1 hx'.1 (fB' s).1 (fB' ih).1
   rw [this];rfl
end
def St (S:Int->Int->Prop):List Int->Prop
 | []=>True
 | [_]=>True
 | a::b::r=>S a b/\St S (b::r)
theorem St.snoc {S:Int->Int->Prop}:∀ {q:List Int}{v u:Int},St S (q++[v])->S v u->St S (q++[v]++[u])
 | [],v,u,_,h=>⟨h,trivial⟩
 | [a],v,u,h1,h=>⟨h1.1,h,trivial⟩
 | a::b::q,v,u,h1,h=>⟨h1.1,St.snoc (q:=b::q) h1.2 h⟩
theorem St.init {S:Int->Int->Prop}:∀ {q:List Int}{v u:Int},St S (q++[v]++[u])->St S (q++[v])/\S v u
 | [],v,u,h=>⟨trivial,h.1⟩
 | [a],v,u,h=>⟨⟨h.1,trivial⟩,h.2.1⟩
 | a::b::q,v,u,h=>by
  have:=St.init (q:=b::q) h.2
  exact ⟨⟨h.1,this.1⟩,this.2⟩
theorem St.mono {S T:Int->Int->Prop} (i:∀ a b,S a b->T a b):∀ {q:List Int},St S q->St T q
 | [],_=>trivial
 | [_],_=>trivial
 | a::b::r,h=>⟨i _ _ h.1,St.mono i (q:=b::r) h.2⟩
theorem St.rev {S:Int->Int->Prop} (sy:∀ a b,S a b->S b a):∀ {q:List Int},St S q->St S q.reverse
 | [],_=>trivial
 | [_],_=>trivial
 | a::b::r,h=>by
  have:=St.rev sy (q:=b::r) h.2
  rw [List.reverse_cons] at this
  rw [List.reverse_cons,List.reverse_cons]
  exact St.snoc this (sy _ _ h.1)
section
variable {n:Nat}{rs:List (Int×Int)}{rk:Int->Nat}{N:Int->List Int}
theorem nR':∀ {k:Nat}{c:Option Int}{h t:Int}{p:List Int},Wy N k c h t=some p->∀ v∈p,v∈Wl N k c h
 | 0,_,_,_,_,e=>by cases e
 | k+1,c,h,t,p,e=>by
  rw [Wy] at e
  intro v hv
  by_cases ht:h=t
  ·rw [if_pos ht] at e
   cases e
   rw [List.mem_singleton.mp hv]
   exact dr'
  ·rw [if_neg ht,Option.map_eq_some_iff] at e
   obtain ⟨q,e,rfl⟩:=e
   obtain ⟨u,hu,e⟩:=List.exists_of_findSome?_eq_some e
   rw [List.mem_filter,decide_eq_true_eq] at hu
   rcases List.mem_cons.mp hv with rfl | hv
   ·exact dr'
   ·exact dK'.mpr (.inr ⟨u,hu.1,hu.2,nR' e v hv⟩)
theorem br':∀ {k:Nat}{c:Option Int}{h t:Int}{p:List Int},Wy N k c h t=some p->∃ q,p=h::q/\∃ r,p=r++[t]
 | 0,_,_,_,_,e=>by cases e
 | k+1,c,h,t,p,e=>by
  rw [Wy] at e
  by_cases ht:h=t
  ·rw [if_pos ht] at e
   cases e
   exact ⟨[],rfl,[],by rw [ht];rfl⟩
  ·rw [if_neg ht,Option.map_eq_some_iff] at e
   obtain ⟨q,e,rfl⟩:=e
   obtain ⟨u,hu,e⟩:=List.exists_of_findSome?_eq_some e
   obtain ⟨_,_,r,rfl⟩:=br' e
   exact ⟨_,rfl,h::r,rfl⟩
theorem e8' (hN:∀ v u,u∈N v↔Adj rs v u):∀ {k:Nat}{c:Option Int}{h t:Int}{p:List Int},Wy N k c h t=some p->St (Adj rs) p
 | 0,_,_,_,_,e=>by cases e
 | k+1,c,h,t,p,e=>by
  rw [Wy] at e
  by_cases ht:h=t
  ·rw [if_pos ht] at e
   cases e
   trivial
  ·rw [if_neg ht,Option.map_eq_some_iff] at e
   obtain ⟨q,e,rfl⟩:=e
   obtain ⟨u,hu,e⟩:=List.exists_of_findSome?_eq_some e
   rw [List.mem_filter,decide_eq_true_eq] at hu
   obtain ⟨q',rfl,_⟩:=br' e
   exact ⟨(hN h u).mp hu.1,e8' hN e⟩
theorem Web.wy_nodup (W:Web n rs rk) (hN:∀ v u,u∈N v↔Adj rs v u):∀ {k:Nat}{c:Option Int}{h t:Int}{p:List Int},Wy N k c h t=some p->p.Nodup
 | 0,_,_,_,_,e=>by cases e
 | k+1,c,h,t,p,e=>by
  rw [Wy] at e
  by_cases ht:h=t
  ·rw [if_pos ht] at e
   cases e
   exact List.nodup_cons.mpr ⟨by simp,List.nodup_nil⟩
  ·rw [if_neg ht,Option.map_eq_some_iff] at e
   obtain ⟨q,e,rfl⟩:=e
   obtain ⟨u,hu,e⟩:=List.exists_of_findSome?_eq_some e
   rw [List.mem_filter,decide_eq_true_eq] at hu
   exact List.nodup_cons.mpr ⟨λm=>W.back hN ((hN h u).mp hu.1) (nR' e h m),W.wy_nodup hN e⟩
theorem Web.uni (W:Web n rs rk) (hN:∀ v u,u∈N v↔Adj rs v u){k:Nat} (hk:18 < k){h:Int}:∀ (m:Nat) (q:List Int) (v:Int),q.length=m->(∃ r,q++[v]=h::r)->St (Adj rs) (q++[v])->(q++[v]).Nodup->Wy N k none h v=some (q++[v]):=by
 intro m
 induction m with
 | zero =>
  intro q v hq ⟨r,e⟩ _ _
  have:=List.length_eq_zero_iff.mp hq
  subst this
  cases e
  obtain ⟨k,rfl⟩:∃ j,k=j+1:=⟨k - 1,by omega⟩
  rw [Wy,if_pos rfl]
  rfl
 | succ m ih =>
  intro q u hq ⟨r,e⟩ st nd
  obtain ⟨q,v,rfl⟩:∃ q' v,q=q'++[v]:=⟨_,_,(List.dropLast_concat_getLast (by intro z;rw [z] at hq;cases hq)).symm⟩
  obtain ⟨s1,s2⟩:=st.init
  have nd':=List.nodup_append.mp nd
  have i:=ih q v (by simpa using hq) (by
   cases q with
   | nil=>cases e;exact ⟨[],rfl⟩
   | cons a q=>cases e;exact ⟨_,rfl⟩) s1 nd'.1
  exact W.ext hN k none h v u _ (λx z=>by cases z) (by simp only [mu];omega) i ((hN v u).mpr s2) (by simp) λm=>nd'.2.2 u m u (List.mem_singleton.mpr rfl) rfl
theorem Web.uni' (W:Web n rs rk) (hN:∀ v u,u∈N v↔Adj rs v u){k:Nat} (hk:18 < k){h t:Int}{p q r:List Int} (e1:p=h::q) (e2:p=r++[t]) (st:St (Adj rs) p) (nd:p.Nodup):Wy N k none h t=some p:=by
 subst e2
 exact W.uni hN hk r.length r t rfl ⟨q,e1⟩ st nd
theorem Web.wy_rev (W:Web n rs rk) (hN:∀ v u,u∈N v↔Adj rs v u){k:Nat} (hk:18 < k){h t:Int}{p:List Int} (e:Wy N k none h t=some p):Wy N k none t h=some p.reverse:=by
 obtain ⟨q,e1,r,e2⟩:=br' e
 refine W.uni' hN hk (q:=r.reverse) (r:=q.reverse) (by rw [e2];simp) (by rw [e1];simp) ((e8' hN e).rev λa b h=>h.symm) ?_
 exact (List.reverse_perm p).symm.nodup (W.wy_nodup hN e)
theorem Web.sub (W:Web n rs rk){rs':List (Int×Int)} (hs:∀ r∈rs',r∈rs) (nd:rs'.Nodup):Web n rs' rk:=by
 have a:∀ a b,Adj rs' a b->Adj rs a b:=λa b h=>h.elim (λh=>.inl (hs _ h)) λh=>.inr (hs _ h)
 exact ⟨W.n1,W.n8,λr hr=>W.lt r (hs r hr),nd,λx y h=>W.ne x y (a _ _ h),λx y h=>W.rk8 x y (a _ _ h),λv x y h1 h2=>W.one v x y (a _ _ h1) (a _ _ h2)⟩
theorem Web.only (W:Web n rs rk) (hN:∀ v u,u∈N v↔Adj rs v u){rs':List (Int×Int)}{N':Int->List Int} (W':Web n rs' rk) (hN':∀ v u,u∈N' v↔Adj rs' v u) (hs:∀ r∈rs',r∈rs){k:Nat} (hk:18 < k){a b:Int} (ab:Adj rs a b) (ne:a≠b){p:List Int} (e:Wy N' k none a b=some p):Adj rs' a b:=by
 have sub:∀ a b,Adj rs' a b->Adj rs a b:=λa b h=>h.elim (λh=>.inl (hs _ h)) λh=>.inr (hs _ h)
 obtain ⟨q,e1,r,e2⟩:=br' e
 have h1:=W.uni' hN hk e1 e2 ((e8' hN' e).mono sub) (W'.wy_nodup hN' e)
 have h2:=W.uni' hN hk (h:=a) (t:=b) (p:=[a,b]) (q:=[b]) (r:=[a]) rfl rfl ⟨ab,trivial⟩ (by simp [ne])
 rw [h1] at h2
 cases h2
 exact (e8' hN' e).1
structure Wb0 (n:Nat) (rs:List (Int×Int)) (rk:Int->Nat):Prop where
 n1:1<=n
 n8:n<=8
 lt:∀ r∈rs,0<=r.1/\r.1 < r.2/\r.2 < n
 nd:rs.Nodup
 ne:∀ a b,Adj rs a b->rk a≠rk b
 one:∀ v a b,Adj rs v a->Adj rs v b->rk a < rk v->rk b < rk v->a=b
def lows (n:Nat) (rk:Int->Nat) (v:Int):Nat:=((List.range n).filter λu:Nat=>decide (rk u < rk v)).length
theorem fC' {α:Type}{p q:α->Bool}:∀ {l:List α}{x:α},(∀ y,p y=true->q y=true)->x∈l->q x=true->p x=false->(l.filter p).length < (l.filter q).length
 | [],_,_,h,_,_=>by cases h
 | y::l,x,i,h,hq,hp=>by
  have le:∀ l:List α,(l.filter p).length<=(l.filter q).length:=λl=>by
   induction l with
   | nil=>exact Nat.le_refl _
   | cons z l ih =>
    by_cases c:p z=true
    ·rw [List.filter_cons_of_pos c,List.filter_cons_of_pos (i z c)];simpa using ih
    ·rw [List.filter_cons_of_neg c]
     by_cases d:q z=true
     ·rw [List.filter_cons_of_pos d,List.length_cons];omega
     ·rw [List.filter_cons_of_neg d];exact ih
  rcases List.mem_cons.mp h with rfl | h
  ·rw [List.filter_cons_of_neg (by simp [hp]),List.filter_cons_of_pos hq,List.length_cons]
   have:=le l
   omega
  ·have:=fC' i h hq hp
   by_cases c:p y=true
   ·rw [List.filter_cons_of_pos c,List.filter_cons_of_pos (i y c)];simpa using this
   ·rw [List.filter_cons_of_neg c]
    by_cases d:q y=true
    ·rw [List.filter_cons_of_pos d,List.length_cons];omega
    ·rw [List.filter_cons_of_neg d];exact this
theorem Wb0.web (W:Wb0 n rs rk):Web n rs (lows n rk):=by
 have inn:∀ a b,Adj rs a b->∃ x:Nat,x < n/\a=(x:Int):=λa b h=>by
  rcases h with h | h
  ·have:=W.lt _ h;simp only at this;exact ⟨a.toNat,by omega,by omega⟩
  ·have:=W.lt _ h;simp only at this;exact ⟨a.toNat,by omega,by omega⟩
 have up:∀ a b,(∃ x:Nat,x < n/\a=(x:Int))->rk a < rk b->lows n rk a < lows n rk b:=λa b ⟨x,hx,e⟩ l=>by
  subst e
  refine fC' (x:=x) (λy hy=>?_) (List.mem_range.mpr hx) (by simpa using l) (by simp)
  simp only [decide_eq_true_eq] at hy ⊢
  omega
 have dn:∀ a b,(∃ x:Nat,x < n/\b=(x:Int))->lows n rk a < lows n rk b->rk a < rk b:=λa b hb l=>by
  rcases Nat.lt_trichotomy (rk a) (rk b) with z | z | z
  ·exact z
  ·unfold lows at l;rw [z] at l;omega
  ·have:=up b a hb z;omega
 refine ⟨W.n1,W.n8,W.lt,W.nd,λa b h e=>?_,λa b h=>?_,λv a b h1 h2 l1 l2=>W.one v a b h1 h2 (dn _ _ (inn _ _ h1) l1) (dn _ _ (inn _ _ h1) l2)⟩
 ·have:=W.ne a b h
  rcases Nat.lt_or_gt_of_ne this with z | z
  ·have:=up a b (inn _ _ h) z;omega
  ·have:=up b a (inn _ _ h.symm) z;omega
 ·obtain ⟨x,hx,rfl⟩:=inn a b h
  have:lows n rk (x:Int) < ((List.range n).filter λ_:Nat=>true).length:=fC' (x:=x) (λ_ _=>rfl) (List.mem_range.mpr hx) rfl (by simp)
  rw [List.filter_eq_self.mpr (λ_ _=>rfl),List.length_range] at this
  have:=W.n8
  omega
noncomputable def far (N:Int->List Int) (b v:Int):Nat:=((Wy N 20 none b v).getD []).length
theorem Web.wy_pre (W:Web n rs rk) (hN:∀ v u,u∈N v↔Adj rs v u){k:Nat} (hk:18 < k){h t u:Int}{p:List Int} (e:Wy N k none h t=some p) (hu:u∈p):∃ q s,Wy N k none h u=some q/\p=q++s:=by
 obtain ⟨a,b,rfl⟩:=List.append_of_mem hu
 obtain ⟨q,e1,_⟩:=br' e
 have st:∀ (l m:List Int),St (Adj rs) (l++m)->St (Adj rs) l:=by
  intro l
  induction l with
  | nil=>intro _ _;trivial
  | cons x l ih =>
   intro m h
   cases l with
   | nil=>trivial
   | cons y l=>exact ⟨h.1,ih m h.2⟩
 have e3:a++u::b=(a++[u])++b:=by simp
 have s1:=e8' hN e
 have s2:=W.wy_nodup hN e
 rw [e3] at s1 s2
 refine ⟨a++[u],b,W.uni' hN hk (q:=(a++[u]).tail) (r:=a) ?_ rfl (st _ _ s1) (List.nodup_append.mp s2).1,e3⟩
 cases a with
 | nil=>cases e1;rfl
 | cons x a=>cases e1;rfl
theorem Web.wy_near (W:Web n rs rk) (hN:∀ v u,u∈N v↔Adj rs v u){k:Nat} (hk:18 < k){h v u:Int}{p:List Int} (e:Wy N k none h v=some p) (a:Adj rs v u):Wy N k none h u=some (p++[u])\/∃ q,Wy N k none h u=some q/\p=q++[v]:=by
 by_cases m:u∈p
 ·obtain ⟨q,s,e1,e2⟩:=W.wy_pre hN hk e m
  refine .inr ⟨q,e1,?_⟩
  by_cases m2:v∈q
  ·obtain ⟨q',s',e3,e4⟩:=W.wy_pre hN hk e1 m2
   rw [e] at e3
   cases e3
   have l1:s.length=0:=by have h1:=congrArg List.length e4;have h2:=congrArg List.length e2;rw [List.length_append] at h1 h2;omega
   rw [List.length_eq_zero_iff.mp l1,List.append_nil] at e2
   subst e2
   obtain ⟨_,_,r,z⟩:=br' e
   obtain ⟨_,_,r',z'⟩:=br' e1
   rw [z] at z'
   have:=(List.append_inj' z' rfl).2
   cases this
   exact absurd rfl (W.ne _ _ a)
  ·have:=W.ext hN k none h u v q (λx z=>by cases z) (by simp only [mu];omega) e1 ((hN u v).mpr a.symm) (by simp) m2
   rw [e] at this
   cases this
   rfl
 ·exact .inl (W.ext hN k none h v u p (λx z=>by cases z) (by simp only [mu];omega) e ((hN v u).mpr a) (by simp) m)
theorem Web.more (W:Web n rs rk) (hN:∀ v u,u∈N v↔Adj rs v u){a b:Int} (h0:0<=a) (h1:a < b) (h2:b < n) (no:Wy N 20 none b a=none){rs':List (Int×Int)} (nd:rs'.Nodup) (hm:∀ r,r∈rs'↔r=(a,b)\/r∈rs):∃ rk',Web n rs' rk':=by
 obtain ⟨C,hC⟩:∃ C:Int->Prop,C=λv=>∃ p,Wy N 20 none b v=some p:=⟨_,rfl⟩
 have cb:C b:=by rw [hC];exact ⟨_,by rw [Wy,if_pos rfl]⟩
 have ca:¬ C a:=by rw [hC];rintro ⟨p,e⟩;rw [no] at e;cases e
 have cs:∀ v u,Adj rs v u->C v->C u:=λv u h c=>by
  rw [hC] at c ⊢
  obtain ⟨p,e⟩:=c
  rcases W.wy_near hN (by omega) e h with z | ⟨q,z,_⟩
  ·exact ⟨_,z⟩
  ·exact ⟨_,z⟩
 have cs':∀ v u,Adj rs v u->¬ C v->¬ C u:=λv u h c z=>c (cs u v h.symm z)
 have fb:far N b b=1:=by unfold far;rw [Wy,if_pos rfl];rfl
 have f1:∀ v,C v->1<=far N b v:=λv c=>by
  rw [hC] at c
  obtain ⟨p,e⟩:=c
  obtain ⟨q,rfl,_⟩:=br' e
  unfold far;rw [e];simp
 have fn:∀ v u,C v->Adj rs v u->(far N b u=far N b v+1)\/far N b v=far N b u+1:=λv u c h=>by
  rw [hC] at c
  obtain ⟨p,e⟩:=c
  rcases W.wy_near hN (by omega) e h with z | ⟨q,z,y⟩
  ·left;unfold far;rw [z,e];simp
  ·right;unfold far;rw [z,e,y];simp
 have fu:∀ v x y,C v->Adj rs v x->Adj rs v y->far N b x < far N b v->far N b y < far N b v->x=y:=λv x y c hx hy lx ly=>by
  rw [hC] at c
  obtain ⟨p,e⟩:=c
  rcases W.wy_near hN (by omega) e hx with z | ⟨q,z,e1⟩
  ·unfold far at lx;rw [z,e] at lx;simp at lx;omega
  rcases W.wy_near hN (by omega) e hy with z' | ⟨q',z',e2⟩
  ·unfold far at ly;rw [z',e] at ly;simp at ly;omega
  rw [e1] at e2
  have:=(List.append_inj' e2 rfl).1
  subst this
  obtain ⟨_,_,r,k1⟩:=br' z
  obtain ⟨_,_,r',k2⟩:=br' z'
  rw [k1] at k2
  have:=(List.append_inj' k2 rfl).2
  cases this
  rfl
 have bn:∀ u,Adj rs b u->far N b b < far N b u:=λu h=>by
  rcases fn b u cb h with z | z
  ·omega
  ·have:=f1 u (cs b u h cb);omega
 have ad:∀ x y,Adj rs' x y↔Adj rs x y\/(x=a/\y=b)\/(x=b/\y=a):=λx y=>by
  unfold Adj
  rw [hm,hm,Prod.mk.injEq,Prod.mk.injEq]
  constructor
  ·rintro ((⟨h,h'⟩ | h) | (⟨h,h'⟩ | h))
   ·exact .inr (.inl ⟨h,h'⟩)
   ·exact .inl (.inl h)
   ·exact .inr (.inr ⟨h',h⟩)
   ·exact .inl (.inr h)
  ·rintro ((h | h) | ⟨h,h'⟩ | ⟨h,h'⟩)
   ·exact .inl (.inr h)
   ·exact .inr (.inr h)
   ·exact .inl (.inl ⟨h,h'⟩)
   ·exact .inr (.inl ⟨h',h⟩)
 let rk':Int->Nat:=λv=>@ite _ (C v) (Classical.propDecidable _) (rk a+far N b v) (rk v)
 have r1:∀ v,C v->rk' v=rk a+far N b v:=λv c=>if_pos c
 have r0:∀ v,¬ C v->rk' v=rk v:=λv c=>if_neg c
 refine ⟨_,Wb0.web (rk:=rk') ⟨W.n1,W.n8,λr hr=>?_,nd,λx y h=>?_,λv x y hx hy lx ly=>?_⟩⟩
 ·rcases (hm r).mp hr with rfl | hr
  ·exact ⟨h0,h1,h2⟩
  ·exact W.lt r hr
 ·rcases (ad x y).mp h with h | ⟨rfl,rfl⟩ | ⟨rfl,rfl⟩
  ·by_cases c:C x
   ·rw [r1 x c,r1 y (cs x y h c)]
    rcases fn x y c h with z | z<;>omega
   ·rw [r0 x c,r0 y (cs' x y h c)]
    exact W.ne x y h
  ·rw [r0 _ ca,r1 _ cb,fb];omega
  ·rw [r0 _ ca,r1 _ cb,fb];omega
 ·rcases (ad v x).mp hx with hx | ⟨rfl,rfl⟩ | ⟨rfl,rfl⟩<;>rcases (ad v y).mp hy with hy | ⟨hy1,rfl⟩ | ⟨hy1,rfl⟩
  ·by_cases c:C v
   ·rw [r1 v c,r1 x (cs v x hx c)] at lx
    rw [r1 v c,r1 y (cs v y hy c)] at ly
    exact fu v x y c hx hy (by omega) (by omega)
   ·rw [r0 v c,r0 x (cs' v x hx c)] at lx
    rw [r0 v c,r0 y (cs' v y hy c)] at ly
    exact W.one v x y hx hy lx ly
  ·subst hy1
   rw [r0 _ ca,r1 _ cb,fb] at ly;omega
  ·subst hy1
   have:=bn x hx
   rw [r1 v cb,r1 x (cs v x hx cb)] at lx
   omega
  ·rw [r0 _ ca,r1 _ cb,fb] at lx;omega
  ·rfl
  ·rw [r0 _ ca,r1 _ cb,fb] at lx;omega
  ·have:=bn y hy
   rw [r1 v cb,r1 y (cs v y hy cb)] at ly
   omega
  ·subst hy1;exact absurd cb ca
  ·rfl
end
def wyR (o:Option (List Int)):R:=match o.map (·.map D.int) with
 | some l=>.own l
 | none=>.val .non
theorem mc' {p:Int->Bool}{f:Int->Option (List Int)}{l:List Int}{i:Nat}{u:Int}{q:List Int} (hu:l[i]?=some u) (hp:p u=true) (hf:f u=some q) (hn:∀ x∈(l.take i).filter p,f x=none):(l.filter p).findSome? f=some q:=by
 obtain ⟨hi,hu⟩:=List.getElem?_eq_some_iff.mp hu
 have e:l=l.take i++u::l.drop (i+1):=by
  rw [← hu,← List.drop_eq_getElem_cons hi,List.take_append_drop]
 rw [e,List.filter_append,List.findSome?_append,List.findSome?_eq_none_iff.mpr hn,List.filter_cons_of_pos hp,List.findSome?_cons,hf]
 rfl
theorem o2' {n:Nat}{rs:List (Int×Int)}{rk:Int->Nat} (W:Web n rs rk):∀ (k:Nat) (c:Option Int) (h t:Int),k<=100->0<=h->h < n->(∀ x,c=some x->Adj rs x h)->mu rk c h < k->wpF (cf' k) ([webD n rs,cameD c,D.int h,D.int t].map .val) λr _=>r=wyR (Wy (nbs rs) k c h t):=by
 intro k
 induction k with
 | zero=>intro c h t _ _ _ _ hm;omega
 | succ k ih =>
  intro c h t k100 h0 h1 hc hm
  have e1:=sk' W h0 h1
  rw [cf']
  refine cR' rfl λKE hE _=>?_
  rw [eY']
  rw [Wy] at hE
  refine af' ?_;rintro K hK hR
  by_cases ht:h=t
  ·rw [if_pos ht] at hE
   subst ht
   simp [dep,aE']
   exact hR _ _ (hE _ _ ⟨_,rfl,rfl⟩)
  ·rw [if_neg ht] at hE
   simp [dep,aE',ht]
   refine hK _ ?_
   refine af' ?_;rintro K hK hR2
   simp [e1]
   refine bF' (J:=λi Γ=>∃ x4 x5,(∀ u∈((nbs rs h).take i).filter λu=>decide (some u≠c),Wy (nbs rs) k (some h) u t=none)/\Γ=[some (.val (webD n rs)),some (.val (cameD c)),some (.val (.int h)),some (.val (.int t)),x4,x5]) ⟨none,none,by simp,rfl⟩ ?_ ?_
   ·rintro i d Γ hd ⟨x4,x5,no,rfl⟩ KL hnx - - hR3
    rw [List.getElem?_map,Option.map_eq_some_iff] at hd
    obtain ⟨u,hu,rfl⟩:=hd
    have tk:(nbs rs h).take (i+1)=(nbs rs h).take i++[u]:=by rw [List.take_succ,hu];rfl
    have au:=(W.nb h u).mp (List.mem_of_getElem? hu)
    have un:=W.in_n au
    refine ⟨_,_,rfl,?_⟩
    show wp _ [some (.val (webD n rs)),some (.val (cameD c)),some (.val (.int h)),some (.val (.int t)),some (.val (.int u)),x5] _
    by_cases uc:some u=c
    ·simp [dep,eg',uc]
     refine hnx _ ⟨_,_,λx hx=>no x ?_,rfl⟩
     rw [tk,List.filter_append] at hx
     simpa [uc] using hx
    ·have lt:=W.mu_lt hc au uc
     have w1:=ih (some h) u t (by omega) (by omega) (by omega) (λx z=>by cases z;exact au) (by omega)
     obtain ⟨m1,m2⟩:=j5' w1
     simp [dep,eg',uc]
     refine af' ?_;rintro K2 hK2 -
     cases e:Wy (nbs rs) k (some h) u t with
     | some q =>
      have e3:=m1 _ (by rw [e];rfl)
      have lq:=(fB' e).2
      simp only [hT']
      refine j7' rfl e3 ?_
      refine ⟨by simp,hK2 _ ?_⟩;clear hK2
      show wp _ [some (.val (webD n rs)),some (.val (cameD c)),some (.val (.int h)),some (.val (.int t)),some (.val (.int u)),some (.val (.lst (q.map D.int)))] _
      simp [isN]
      refine ⟨by omega,hR3 _ _ (hR2 _ _ (hE _ _ ⟨_,rfl,?_⟩))⟩
      rw [mc' hu (by simpa using uc) e no]
      rfl
     | none =>
      have e3:=m2 (by rw [e];rfl)
      simp only [hT']
      refine j8' rfl e3 ?_
      refine ⟨by simp,hK2 _ ?_⟩;clear hK2
      show wp _ [some (.val (webD n rs)),some (.val (cameD c)),some (.val (.int h)),some (.val (.int t)),some (.val (.int u)),some (.val .non)] _
      simp [isN]
      refine hnx _ ⟨_,_,λx hx=>?_,rfl⟩
      rw [tk,List.filter_append] at hx
      rcases List.mem_append.mp hx with hx | hx
      ·exact no x hx
      ·rw [List.mem_singleton.mp (List.mem_filter.mp hx).1];exact e
   ·rintro Γ ⟨x4,x5,no,rfl⟩
    rw [List.length_map,List.take_length] at no
    refine hK _ ?_
    refine ⟨_,_,rfl,?_⟩
    refine hE _ _ ⟨_,rfl,?_⟩
    rw [List.findSome?_eq_none_iff.mpr no]
    rfl
theorem md' {n:Nat}{rs:List (Int×Int)}{rk:Int->Nat} (W:Web n rs rk){a b:Int} (a0:0<=a) (a1:a < n) (b0:0<=b) (b1:b < n):wpF be' ([webD n rs,D.int a,D.int b].map .val) λr _=>r=wyR (Wy (nbs rs) 21 none a b):=by
 have e1:=j2' (rs:=rs) a0 a1
 have e2:=j2' (rs:=rs) b0 b1
 have w:=o2' W 21 none a b (by omega) a0 a1 (λx z=>by cases z) (by simp [mu])
 change wpF (cf' 21) ([webD n rs,D.non,D.int a,D.int b].map .val) _ at w
 obtain ⟨m1,m2⟩:=j5' w
 refine cR' rfl λKE hE _=>?_
 rw [dM']
 refine af' ?_;rintro K hK -
 simp [e1]
 refine hK _ ?_
 refine af' ?_;rintro K hK -
 simp [e2]
 refine hK _ ?_
 cases e:Wy (nbs rs) 21 none a b with
 | some q =>
  rw [e] at hE
  exact o0' rfl (m1 _ (by rw [e];rfl)) (hE _ _ ⟨_,rfl,rfl⟩)
 | none =>
  rw [e] at hE
  exact o1' rfl (m2 (by rw [e];rfl)) (hE _ _ ⟨_,rfl,rfl⟩)
def wyD:Option (List Int)->D
 | some l=>.lst (l.map D.int)
 | none=>.non
theorem rQ' {g:List R->Option (R×List R)}{t:M (List D)}{Γ:Gm}{ds:List D}{o:Option (List Int)}{Q:D->Gm->Prop} (m:(∀ l,o.map (·.map D.int)=some l->coF g ds=some l)/\(o.map (·.map D.int)=none->MixN g ds)) (h:wp t Γ λds' Γ1=>ds'=ds/\Q (wyD o) Γ1):wp (altM (frz (fn1 (coF g) t)) (fn1 (cvF g) t)) Γ Q:=by
 obtain ⟨ds',Γ1,e,rfl,q⟩:=h
 cases o with
 | some l=>exact j7' e (m.1 _ rfl) q
 | none=>exact j8' e (m.2 rfl) q
theorem btw {n:Nat}{rs:List (Int×Int)}{rk:Int->Nat} (W:Web n rs rk){a b:Int} (a0:0<=a) (a1:a < n) (b0:0<=b) (b1:b < n):(∀ l,(Wy (nbs rs) 21 none a b).map (·.map D.int)=some l->coF be' [webD n rs,D.int a,D.int b]=some l)/\((Wy (nbs rs) 21 none a b).map (·.map D.int)=none->MixN be' [webD n rs,D.int a,D.int b]):=j5' (md' W a0 a1 b0 b1)
theorem qn' {rs:List (Int×Int)}{i:Nat} (h:i < rs.length):slF (.tup (rs.map pairD)) none (some (i:Int))=some (.tup ((rs.take i).map pairD)):=by
 unfold slF
 simp only
 rw [if_neg]
 ·rw [ed',List.map_take]
 ·rintro ⟨_,z⟩
  rw [List.length_map,l2'] at z
  omega
theorem ly' {n:Nat} (n1:1<=n) (n8:n<=8):Web n [] λ_=>0:=by
 refine ⟨n1,n8,λr h=>(by cases h),List.nodup_nil,λa b h=>?_,λa b h=>?_,λv a b h=>?_⟩<;>rcases h with h | h<;>cases h
theorem nS' {rs:List (Int×Int)}{i:Nat}{d:D} (h:(numD 0 (rs.map pairD))[i]?=some d):∃ r,rs[i]?=some r/\d=.tup [.int i,pairD r]:=by
 obtain ⟨x,h1,rfl⟩:=DL.eS' h
 rw [List.getElem?_map,Option.map_eq_some_iff] at h1
 obtain ⟨r,h1,rfl⟩:=h1
 exact ⟨r,h1,by rw [Nat.zero_add]⟩
theorem o3' {n:Nat}{rs:List (Int×Int)} (lt:∀ r∈rs,0<=r.1/\r.1 < r.2/\r.2 < n) (nd:rs.Nodup){i:Nat}{a b:Int} (hr:rs[i]?=some (a,b)){rk:Int->Nat} (W:Web n (rs.take i) rk) (no:Wy (nbs (rs.take i)) 21 none a b=none):∃ rk',Web n (rs.take (i+1)) rk':=by
 have l:=lt _ (List.mem_of_getElem? hr)
 have tk:rs.take (i+1)=rs.take i++[(a,b)]:=by rw [List.take_succ,hr];rfl
 refine W.more W.nb l.1 l.2.1 l.2.2 ?_ (nd.sublist (List.take_sublist _ _)) λr=>?_
 ·cases e:Wy (nbs (rs.take i)) 20 none b a with
  | none=>rfl
  | some p =>
   exfalso
   have e2:=W.wy_rev W.nb (by omega) e
   obtain ⟨q,e3,r,e4⟩:=br' e2
   have:=W.uni' W.nb (k:=21) (by omega) e3 e4 (e8' W.nb e2) (W.wy_nodup W.nb e2)
   rw [no] at this
   cases this
 ·rw [tk,List.mem_append,List.mem_singleton]
  exact or_comm
theorem qo' {n:Nat}{rs:List (Int×Int)}{rk:Int->Nat} (W:Web n rs rk){i:Nat}{a b:Int} (hr:rs[i]?=some (a,b)):Web n (rs.take i) rk/\Wy (nbs (rs.take i)) 21 none a b=none:=by
 have W':Web n (rs.take i) rk:=W.sub (λr h=>List.mem_of_mem_take h) (W.nd.sublist (List.take_sublist _ _))
 have m:=List.mem_of_getElem? hr
 have l:=W.lt _ m
 refine ⟨W',?_⟩
 cases e:Wy (nbs (rs.take i)) 21 none a b with
 | none=>rfl
 | some p =>
  exfalso
  have ne:a≠b:=by have:=l.2.1;simp only at this;omega
  have ad:=W.only W.nb W' W'.nb (λr h=>List.mem_of_mem_take h) (by omega) (.inl m) ne e
  rcases ad with h | h
  ·obtain ⟨j,hj,e2⟩:=List.mem_take_iff_getElem.mp h
   obtain ⟨hi,e3⟩:=List.getElem?_eq_some_iff.mp hr
   have:=(List.getElem_inj W.nd).mp (e2.trans e3.symm)
   omega
  ·have l':=W.lt _ (List.mem_of_mem_take h)
   have h1:=l.2.1
   have h2:=l'.2.1
   simp only at h1 h2
   omega
theorem qp' {n:Nat}{rs:List (Int×Int)} (n1:1<=n) (n8:n<=8) (lt:∀ r∈rs,0<=r.1/\r.1 < r.2/\r.2 < n) (nd:rs.Nodup){v:Bool} (hv:v=false↔∃ rk,Web n rs rk) (l64:rs.length<=64):cvF dU' [.int n,.tup (rs.map pairD)]=some (.bl v):=by
 refine c5' rfl λKE k1 _=>?_
 rw [eZ']
 refine af' ?_;rintro K hK hR
 simp
 refine bF' (J:=λi Γ=>∃ x2 x3,(∃ rk,Web n (rs.take i) rk)/\Γ=[some (.val (.int n)),some (.val (.tup (rs.map pairD))),x2,x3]) ⟨none,none,⟨_,by rw [List.take_zero];exact ly' n1 n8⟩,rfl⟩ ?_ ?_
 ·rintro i d Γ hd ⟨x2,x3,⟨rk,W⟩,rfl⟩ KL hnx - - hR3
  obtain ⟨⟨a,b⟩,hr,rfl⟩:=nS' hd
  have l:=lt _ (List.mem_of_getElem? hr)
  have hi:i < rs.length:=(List.getElem?_eq_some_iff.mp hr).1
  have e1:=qn' hi
  have B:=btw W (a:=a) (b:=b) l.1 (by have:=l.2.1;have:=l.2.2;simp only at *;omega) (by have:=l.1;have:=l.2.1;simp only at *;omega) l.2.2
  simp
  refine rQ' B ?_
  simp [e1]
  refine ⟨by unfold webD;rw [List.map_take],?_⟩
  cases e:Wy (nbs (rs.take i)) 21 none a b with
  | some p =>
   simp [isN,wyD]
   refine hR3 _ _ (hR _ _ ?_)
   have:v=true:=by
    cases v with
    | true=>rfl
    | false =>
     obtain ⟨rk',W'⟩:=hv.mp rfl
     rw [(qo' W' hr).2] at e
     cases e
   subst this
   exact k1 _ ⟨_,rfl⟩
  | none =>
   simp [isN,wyD]
   exact hnx _ ⟨_,_,o3' lt nd hr W e,rfl⟩
 ·rintro Γ ⟨x2,x3,W,rfl⟩
  refine hK _ ?_
  have ln:(numD 0 (rs.map pairD)).length=rs.length:=by rw [DL.jo',List.length_map]
  rw [ln,List.take_length] at W
  have:=hv.mpr W
  subst this
  exact ⟨_,_,rfl,k1 _ ⟨_,rfl⟩⟩
theorem Web.few {n:Nat}{rs:List (Int×Int)}{rk:Int->Nat} (W:Web n rs rk):rs.length<=n:=by
 have:=bI' (m:=n) (l:=rs.map λr=>if rk r.1 < rk r.2 then r.2 else r.1) (bH' W.nd λx hx y hy e=>?_) λv hv=>?_
 ·simpa using this
 ·obtain ⟨a,b⟩:=x
  obtain ⟨c,d⟩:=y
  have ax:Adj rs a b:=.inl hx
  have ay:Adj rs c d:=.inl hy
  have n1:=W.ne _ _ ax
  have n2:=W.ne _ _ ay
  have l1:=(W.lt _ hx).2.1
  have l2:=(W.lt _ hy).2.1
  simp only at e l1 l2
  by_cases p:rk a < rk b<;>by_cases q:rk c < rk d
  ·rw [if_pos p,if_pos q] at e
   subst e
   rw [W.one b a c ax.symm ay.symm p q]
  ·rw [if_pos p,if_neg q] at e
   subst e
   have:=W.one b a d ax.symm ay p (by omega)
   subst this
   omega
  ·rw [if_neg p,if_pos q] at e
   subst e
   have:=W.one a b c ax ay.symm (by omega) q
   subst this
   omega
  ·rw [if_neg p,if_neg q] at e
   subst e
   rw [W.one a b d ax ay (by omega) (by omega)]
 ·obtain ⟨r,hr,rfl⟩:=List.mem_map.mp hv
  have:=W.lt r hr
  split<;>omega
def Rise (rs:List (Int×Int)):Prop:=(rs.map pairD).Pairwise λa b=>leD a b=true
theorem nT' (ps:List (Int×Int)):Rise (sortP ps):=by
 unfold Rise sortP
 have:(ps.mergeSort λp q=>leD (pairD p) (pairD q)).map pairD=sortD (ps.map pairD):=List.map_mergeSort (s:=leD) (f:=pairD) λa _ b _=>rfl
 rw [this]
 exact ea' _
theorem nU' {p q:Int×Int} (h:pairD p=pairD q):p=q:=by
 unfold pairD at h
 injection h with h
 injection h with h1 h2
 injection h1 with h1
 injection h2 with h2 h3
 injection h2 with h2
 exact Prod.ext h1 h2
theorem gr' (ps:List (Int×Int)):cmAll (ps.map pairD)=true:=by
 unfold cmAll
 rw [List.all_eq_true]
 intro a ha
 rw [List.all_eq_true]
 intro b hb
 obtain ⟨i,_,rfl⟩:=List.mem_map.mp ha
 obtain ⟨j,_,rfl⟩:=List.mem_map.mp hb
 simp [pairD,cmB,cmA]
theorem j9' {p q:Int×Int}:deq (pairD p) (pairD q)=decide (p=q):=by
 obtain ⟨a,b⟩:=p
 obtain ⟨c,d⟩:=q
 unfold pairD
 simp only [deq,deqA,Prod.mk.injEq]
 by_cases h1:a=c<;>by_cases h2:b=d<;>simp [h1,h2]
theorem e9' {rs:List (Int×Int)} (nd:rs.Nodup):dd (rs.map pairD)=rs.map pairD:=by
 have key:∀ (rs acc:List (Int×Int)),(acc++rs).Nodup->(rs.map pairD).foldl dstep (acc.map pairD)=(acc++rs).map pairD:=by
  intro rs
  induction rs with
  | nil=>intro acc _;simp
  | cons r rs ih =>
   intro acc h
   rw [List.map_cons,List.foldl_cons]
   have no:¬ (acc.map pairD).any (λe=>deq e (pairD r))=true:=by
    rw [List.any_eq_true]
    rintro ⟨e,he,z⟩
    obtain ⟨p,hp,rfl⟩:=List.mem_map.mp he
    rw [j9',decide_eq_true_eq] at z
    subst z
    exact (List.nodup_append.mp h).2.2 p hp p List.mem_cons_self rfl
   have:dstep (acc.map pairD) (pairD r)=(acc++[r]).map pairD:=by
    unfold dstep
    rw [if_neg no]
    simp
   rw [this,ih (acc++[r]) (by simpa using h)]
   simp
 exact key rs [] (by simpa using nd)
theorem iH' {rs:List (Int×Int)} (h:Rise rs):sortD (rs.map pairD)=rs.map pairD:=List.mergeSort_of_pairwise h
theorem o4' {rs:List (Int×Int)} (nd:rs.Nodup) (h:Rise rs) (l:rs.length<=28):setTF [.tup (rs.map pairD)]=some (rs.map pairD):=by
 unfold setTF
 simp only
 rw [if_pos,e9' nd,iH' h]
 refine ⟨⟨gr' rs,?_,?_,?_,by rw [e9' nd];simpa using l⟩,.inl ?_⟩
 ·rw [List.all_eq_true];intro a ha;obtain ⟨i,_,rfl⟩:=List.mem_map.mp ha;rfl
 ·rw [List.all_eq_true];intro a ha;obtain ⟨i,_,rfl⟩:=List.mem_map.mp ha;rfl
 ·refine Nat.le_trans (bx' (n:=1) λd hd=>?_) (by omega)
  obtain ⟨p,_,rfl⟩:=List.mem_map.mp hd
  exact cM'
 ·rw [List.all_eq_true];intro a ha;obtain ⟨i,_,rfl⟩:=List.mem_map.mp ha;rfl
@[simp ↓] theorem tF' {F F' F'':D->D->Option D}{ga gb gc gd:M D}{Γ:Gm}{Q:D->Gm->Prop}:wp (chn3 F F' F'' ga gb gc gd) Γ Q↔wp ga Γ λx Γ1=>wp gb Γ1 λy Γ2=>wp (lft (F x y)) Γ2 λz Γ3=>wp (lft (asB z)) Γ3 λk Γ4=>if k then wp gc Γ4 λw Γ5=>wp (lft (F' y w)) Γ5 λz' Γ6=>wp (lft (asB z')) Γ6 λk' Γ7=>if k' then wp gd Γ7 λw' Γ8=>wp (lft (F'' w w')) Γ8 Q else Q (.bl false) Γ7 else Q (.bl false) Γ4:=by
 unfold chn3
 simp only [aG']
 constructor
 ·intro h
  refine h.mono λx Γ1 h=>h.mono λy Γ2 h=>h.mono λz Γ3 h=>h.mono λk Γ4 h=>?_
  cases k
  ·simpa using h
  ·simp only [if_true,aG'] at h ⊢
   refine h.mono λw Γ5 h=>h.mono λz' Γ6 h=>h.mono λk' Γ7 h=>?_
   cases k'
   ·simpa using h
   ·simpa [aG'] using h
 ·intro h
  refine h.mono λx Γ1 h=>h.mono λy Γ2 h=>h.mono λz Γ3 h=>h.mono λk Γ4 h=>?_
  cases k
  ·simpa using h
  ·simp only [if_true,aG'] at h ⊢
   refine h.mono λw Γ5 h=>h.mono λz' Γ6 h=>h.mono λk' Γ7 h=>?_
   cases k'
   ·simpa using h
   ·simpa [aG'] using h
theorem iI' {i:Int}:cvF a7' [.int i]=some (.bl true):=rfl
theorem nV' {n:Nat}{r:Int×Int} (h:0<=r.1/\r.1 < r.2/\r.2 < n):cvF dH' [.int n,pairD r]=some (.bl true):=by
 obtain ⟨a,b⟩:=r
 obtain ⟨h0,h1,h2⟩:=h
 simp only at h0 h1 h2
 refine c5' rfl λKE k1 _=>?_
 rw [er']
 refine af' ?_;rintro K hK -
 simp [pairD,dep,aE']
 refine hK _ ?_
 simp [pairD,iI',h0,h1,h2]
 exact k1 _ ⟨_,rfl⟩
theorem bL':∀ (xs:List D),deqA xs xs=true
 | []=>rfl
 | x::xs=>by rw [deqA,eQ',bL' xs];rfl
theorem o5' {n:Nat}{rs:List (Int×Int)} (n1:1<=n) (n8:n<=8) (lt:∀ r∈rs,0<=r.1/\r.1 < r.2/\r.2 < n) (nd:rs.Nodup) (ri:Rise rs) (l18:rs.length<=28){v:Bool} (hv:v=true↔∃ rk,Web n rs rk):cvF cg' [webD n rs]=some (.bl v):=by
 have e1:=qp' n1 n8 lt nd (v:=!v) (by rw [← hv];cases v<;>simp) (by omega)
 have e2:=o4' nd ri l18
 refine c5' rfl λKE k1 _=>?_
 rw [e0']
 refine af' ?_;rintro K hK -
 simp [webD,dep,aE']
 refine hK _ ?_
 refine af' ?_;rintro K hK -
 simp [webD]
 refine hK _ ?_
 refine af' ?_;rintro K hK -
 simp [webD]
 refine hK _ ?_
 refine af' ?_;rintro K hK -
 simp [iI',n1,n8,show (1:Int)<=n by omega,show (n:Int)<=8 by omega]
 refine hK _ ?_
 refine af' ?_;rintro K hK -
 simp
 refine dm' rs pairD (λ_=>true) (λ_=>.bl true) ?_
 simp
 refine ⟨by omega,λa b hr=>?_,?_⟩
 ·have:=nV' (n:=n) (r:=(a,b)) (lt _ hr)
  simp [this]
 ·rw [ee' (f:=λ_:Int×Int=>true)]
  have al:((List.filter (λ_=>true) rs).all λ_:Int×Int=>true)=true:=by simp
  rw [al]
  simp
  refine hK _ ?_
  simp [e2]
  have d1:depA (rs.map pairD)<=1:=bx' λd hd=>by
   obtain ⟨p,_,rfl⟩:=List.mem_map.mp hd
   exact cM'
  refine ⟨by rw [dep];omega,?_⟩
  rw [eQ']
  simp [e1]
  exact k1 _ ⟨_,rfl⟩
noncomputable def nbX (M:List (Int×Int)) (v:Int):List Int:=M.filterMap λr=>if r.1=v then some r.2 else if r.2=v then some r.1 else none
def endsL (L:List (Int×Int)):List Int:=L.map (·.1)++L.map (·.2)
def dg (L:List (Int×Int)) (v:Int):Nat:=(endsL L).count v
def prn (L:List (Int×Int)):List (Int×Int):=L.filter λr=>decide (dg L r.1 > 1)&&decide (dg L r.2 > 1)
theorem h1' {r:Int×Int}{L:List (Int×Int)}{v:Int}:dg (r::L) v=dg L v+(if r.1=v then 1 else 0)+(if r.2=v then 1 else 0):=by
 unfold dg endsL
 simp only [List.map_cons,List.count_append,List.count_cons,List.cons_append]
 by_cases a:r.1=v<;>by_cases b:r.2=v<;>simp [a,b]<;>omega
theorem lz' {L:List (Int×Int)}{v:Int} (h:∀ x,¬ Adj L v x):dg L v=0:=by
 induction L with
 | nil=>rfl
 | cons r L ih =>
  rw [h1']
  have h1:¬ r.1=v:=λz=>h r.2 (.inl (by rw [← z];exact List.mem_cons_self))
  have h2:¬ r.2=v:=λz=>h r.1 (.inr (by rw [← z];exact List.mem_cons_self))
  rw [if_neg h1,if_neg h2,ih λx z=>h x (z.elim (λz=>.inl (List.mem_cons_of_mem _ z)) λz=>.inr (List.mem_cons_of_mem _ z))]
theorem rR' {L:List (Int×Int)} (lt:∀ r∈L,r.1 < r.2) (nd:L.Nodup){v w:Int} (h:∀ x,Adj L v x->x=w):dg L v<=1:=by
 induction L with
 | nil=>exact Nat.zero_le _
 | cons r L ih =>
  rw [List.nodup_cons] at nd
  have l:=lt r List.mem_cons_self
  have lt':∀ r∈L,r.1 < r.2:=λr hr=>lt r (List.mem_cons_of_mem _ hr)
  have up:∀ x,Adj L v x->Adj (r::L) v x:=λx z=>z.elim (λz=>.inl (List.mem_cons_of_mem _ z)) λz=>.inr (List.mem_cons_of_mem _ z)
  rw [h1']
  by_cases a:r.1=v
  ·have ne:¬ r.2=v:=by omega
   have e:r.2=w:=h r.2 (.inl (by rw [← a];exact List.mem_cons_self))
   rw [if_pos a,if_neg ne,lz' λx z=>?_]
   ·omega
   ·have:=h x (up x z)
    subst this
    rcases z with z | z
    ·exact nd.1 (by rw [show r=(v,x) from Prod.ext a e];exact z)
    ·have:=lt' _ z
     simp only at this
     omega
  ·by_cases b:r.2=v
   ·have e:r.1=w:=h r.1 (.inr (by rw [← b];exact List.mem_cons_self))
    rw [if_neg a,if_pos b,lz' λx z=>?_]
    ·omega
    ·have:=h x (up x z)
     subst this
     rcases z with z | z
     ·have:=lt' _ z
      simp only at this
      omega
     ·exact nd.1 (by rw [show r=(x,v) from Prod.ext e b];exact z)
   ·rw [if_neg a,if_neg b]
    have:=ih lt' nd.2 λx z=>h x (up x z)
    omega
theorem ka' {L:List (Int×Int)}{v x y:Int} (lt:∀ r∈L,r.1 < r.2) (h:dg L v<=1) (hx:Adj L v x) (hy:Adj L v y):x=y:=by
 induction L with
 | nil=>rcases hx with z | z<;>cases z
 | cons r L ih =>
  have l:=lt r List.mem_cons_self
  have lt':∀ r∈L,r.1 < r.2:=λr hr=>lt r (List.mem_cons_of_mem _ hr)
  rw [h1'] at h
  have no:∀ x,dg L v=0->¬ Adj L v x:=λx z a=>by
   have:v∈endsL L:=by
    unfold endsL
    rcases a with a | a
    ·exact List.mem_append_left _ (List.mem_map.mpr ⟨_,a,rfl⟩)
    ·exact List.mem_append_right _ (List.mem_map.mpr ⟨_,a,rfl⟩)
   have:=List.count_pos_iff.mpr this
   unfold dg at z
   omega
  have cs:∀ x,Adj (r::L) v x->(r=(v,x)\/r=(x,v))\/Adj L v x:=λx a=>by
   rcases a with a | a
   ·rcases List.mem_cons.mp a with z | z
    ·exact .inl (.inl z.symm)
    ·exact .inr (.inl z)
   ·rcases List.mem_cons.mp a with z | z
    ·exact .inl (.inr z.symm)
    ·exact .inr (.inr z)
  by_cases t:r.1=v\/r.2=v
  ·have z0:dg L v=0:=by
    rcases t with t | t
    ·rw [if_pos t] at h;omega
    ·rw [if_pos t] at h;omega
   have one:∀ x,Adj (r::L) v x->r=(v,x)\/r=(x,v):=λx a=>(cs x a).elim id λz=>absurd z (no x z0)
   rcases one x hx with e | e<;>rcases one y hy with e' | e'<;>rw [e] at e'<;>cases e'
   ·rfl
   ·rfl
   ·rfl
   ·rfl
  ·have a:¬ r.1=v:=λz=>t (.inl z)
   have b:¬ r.2=v:=λz=>t (.inr z)
   rw [if_neg a,if_neg b] at h
   have up:∀ x,Adj (r::L) v x->Adj L v x:=λx z=>(cs x z).elim (λz=>by
    rcases z with z | z
    ·exact absurd (by rw [z]) a
    ·exact absurd (by rw [z]) b) id
   exact ih lt' (by omega) (up x hx) (up y hy)
section
variable {n:Nat}{L:List (Int×Int)}{rk:Int->Nat}{N:Int->List Int}
theorem kb':∀ (L:List (Int×Int)),L≠[]->∃ v,(∃ x,Adj L v x)/\∀ u,(∃ x,Adj L u x)->rk u<=rk v
 | [],h=>absurd rfl h
 | r::L,_=>by
  have two:∃ v,(∃ x,Adj [r] v x)/\∀ u,(∃ x,Adj [r] u x)->rk u<=rk v:=by
   have key:∀ u,(∃ x,Adj [r] u x)->u=r.1\/u=r.2:=λu ⟨x,a⟩=>by
    rcases a with a | a
    ·rw [← List.mem_singleton.mp a];exact .inl rfl
    ·rw [← List.mem_singleton.mp a];exact .inr rfl
   by_cases l:rk r.1<=rk r.2
   ·exact ⟨r.2,⟨r.1,.inr (by simp)⟩,λu hu=>by rcases key u hu with rfl | rfl<;>omega⟩
   ·exact ⟨r.1,⟨r.2,.inl (by simp)⟩,λu hu=>by rcases key u hu with rfl | rfl<;>omega⟩
  obtain ⟨v,⟨x,hv⟩,mv⟩:=two
  have sp:∀ u,(∃ x,Adj (r::L) u x)->(∃ x,Adj [r] u x)\/∃ x,Adj L u x:=λu ⟨x,a⟩=>by
   rcases a with a | a<;>rcases List.mem_cons.mp a with z | z
   ·exact .inl ⟨x,.inl (by rw [z];simp)⟩
   ·exact .inr ⟨x,.inl z⟩
   ·exact .inl ⟨x,.inr (by rw [z];simp)⟩
   ·exact .inr ⟨x,.inr z⟩
  have up1:Adj (r::L) v x:=hv.elim (λz=>.inl (by rw [List.mem_singleton.mp z];exact List.mem_cons_self)) λz=>.inr (by rw [List.mem_singleton.mp z];exact List.mem_cons_self)
  by_cases e:L=[]
  ·subst e
   exact ⟨v,⟨x,up1⟩,λu hu=>mv u hu⟩
  ·obtain ⟨v',⟨x',hv'⟩,mv'⟩:=kb' L e
   have up2:Adj (r::L) v' x':=hv'.elim (λz=>.inl (List.mem_cons_of_mem _ z)) λz=>.inr (List.mem_cons_of_mem _ z)
   by_cases l:rk v<=rk v'
   ·exact ⟨v',⟨x',up2⟩,λu hu=>by
     rcases sp u hu with z | z
     ·exact Nat.le_trans (mv u z) l
     ·exact mv' u z⟩
   ·exact ⟨v,⟨x,up1⟩,λu hu=>by
     rcases sp u hu with z | z
     ·exact mv u z
     ·exact Nat.le_trans (mv' u z) (by omega)⟩
theorem Web.leaf (W:Web n L rk) (ne:L≠[]):(prn L).length < L.length:=by
 have lt:∀ r∈L,r.1 < r.2:=λr hr=>(W.lt r hr).2.1
 obtain ⟨v,⟨x,hv⟩,mv⟩:=kb' (rk:=rk) L ne
 have low:∀ y,Adj L v y->rk y < rk v:=λy hy=>by
  have:=W.ne v y hy
  have:=mv y ⟨v,hy.symm⟩
  omega
 have d1:dg L v<=1:=rR' lt W.nd (w:=x) λy hy=>W.one v y x hy hv (low y hy) (low x hv)
 have ex:∃ r∈L,r.1=v\/r.2=v:=by
  rcases hv with z | z
  ·exact ⟨_,z,.inl rfl⟩
  ·exact ⟨_,z,.inr rfl⟩
 obtain ⟨r,hr,e⟩:=ex
 unfold prn
 rcases Nat.lt_or_ge (L.filter λr=>decide (dg L r.1 > 1)&&decide (dg L r.2 > 1)).length L.length with z | z
 ·exact z
 ·exfalso
  have le:=List.length_filter_le (λr:Int×Int=>decide (dg L r.1 > 1)&&decide (dg L r.2 > 1)) L
  have all:=(List.length_filter_eq_length_iff (p:=λr:Int×Int=>decide (dg L r.1 > 1)&&decide (dg L r.2 > 1)) (l:=L)).mp (by omega) r hr
  simp only [Bool.and_eq_true,decide_eq_true_eq] at all
  rcases e with e | e
  ·rw [e] at all;omega
  ·rw [e] at all;omega
theorem kc' (hN:∀ M:List (Int×Int),∀ v u,u∈nbX M v↔Adj M v u){L:List (Int×Int)} (lt:∀ r∈L,0<=r.1/\r.1 < r.2/\r.2 < n) (nd:L.Nodup):∀ (R M:List (Int×Int)),(∀ r∈R,r∈L/\(dg L r.1<=1\/dg L r.2<=1))->(∀ r∈M,r∈L)->(M++R).Nodup->(∃ rk,Web n M rk)->∃ rk,Web n (M++R) rk
 | [],M,_,_,_,h=>by rw [List.append_nil];exact h
 | r::R,M,hR,hM,nd',⟨rk,W⟩=>by
  obtain ⟨a,b⟩:=r
  have lt':∀ r∈L,r.1 < r.2:=λr hr=>(lt r hr).2.1
  have hr:=hR (a,b) List.mem_cons_self
  have l:=lt _ hr.1
  have nm:(a,b)∉M:=λz=>(List.nodup_append.mp nd').2.2 _ z _ List.mem_cons_self rfl
  have up:∀ x y,Adj M x y->Adj L x y:=λx y z=>z.elim (λz=>.inl (hM _ z)) λz=>.inr (hM _ z)
  have no:Wy (nbX M) 20 none b a=none:=by
   cases e:Wy (nbX M) 20 none b a with
   | none=>rfl
   | some p =>
    exfalso
    obtain ⟨q,e1,q2,e2⟩:=br' e
    have st:=e8' (hN M) e
    cases q with
    | nil =>
     rw [e1] at e2
     cases q2 with
     | nil=>cases e2;have:=l.2.1;simp only at this;omega
     | cons y q2=>cases q2<;>cases e2
    | cons x q =>
     rw [e1] at st
     have bx:Adj M b x:=st.1
     rcases hr.2 with d | d
     ·-- the last step comes to a
      have:∃ y,Adj M y a:=by
       rw [e1] at e2
       cases q2 with
       | nil=>cases e2
       | cons y q2 =>
        have h2:St (Adj M) ((y::q2)++[a]):=by rw [← e2];exact st
        obtain ⟨q3,z,hz⟩:∃ q3 z,y::q2=q3++[z]:=⟨_,_,(List.dropLast_concat_getLast (by simp)).symm⟩
        rw [hz] at h2
        exact ⟨z,h2.init.2⟩
      obtain ⟨y,hy⟩:=this
      have yb:=ka' lt' d (up a y hy.symm) (.inl hr.1)
      subst yb
      rcases hy with z | z
      ·have:=(lt _ (hM _ z)).2.1;have:=l.2.1;simp only at *;omega
      ·exact nm z
     ·have xa:=ka' lt' d (up b x bx) (.inr hr.1)
      subst xa
      rcases bx with z | z
      ·have:=(lt _ (hM _ z)).2.1;have:=l.2.1;simp only at *;omega
      ·exact nm z
  have nd1:(M++[(a,b)]).Nodup:=by
   have:(M++[(a,b)]).Sublist (M++(a,b)::R):=(List.Sublist.refl M).append (List.singleton_sublist.mpr List.mem_cons_self)
   exact nd'.sublist this
  have W2:∃ rk',Web n (M++[(a,b)]) rk':=W.more (hN M) l.1 l.2.1 l.2.2 no nd1 λr=>by rw [List.mem_append,List.mem_singleton];exact or_comm
  have:=kc' hN lt nd R (M++[(a,b)]) (λr hr=>hR r (List.mem_cons_of_mem _ hr)) (λr hr'=>by
   rcases List.mem_append.mp hr' with z | z
   ·exact hM r z
   ·rw [List.mem_singleton.mp z];exact hr.1) (by simpa using nd') W2
  simpa using this
theorem nW' (hN:∀ M:List (Int×Int),∀ v u,u∈nbX M v↔Adj M v u) (lt:∀ r∈L,0<=r.1/\r.1 < r.2/\r.2 < n) (nd:L.Nodup):(∃ rk,Web n (prn L) rk)↔∃ rk,Web n L rk:=by
 constructor
 ·intro h
  have pm:(prn L++L.filter λr=>!(decide (dg L r.1 > 1)&&decide (dg L r.2 > 1))).Perm L:=List.filter_append_perm _ L
  obtain ⟨rk,W⟩:=kc' hN lt nd (L.filter λr=>!(decide (dg L r.1 > 1)&&decide (dg L r.2 > 1))) (prn L) (λr hr=>by
   rw [List.mem_filter] at hr
   refine ⟨hr.1,?_⟩
   have:=hr.2
   simp only [Bool.not_eq_true',Bool.and_eq_false_iff,decide_eq_false_iff_not] at this
   omega) (λr hr=>(List.mem_filter.mp hr).1) (pm.symm.nodup nd) h
  exact ⟨rk,W.sub (λr hr=>pm.symm.mem_iff.mp hr) nd⟩
 ·rintro ⟨rk,W⟩
  exact ⟨rk,W.sub (λr hr=>(List.mem_filter.mp hr).1) (nd.filter _)⟩
end
@[simp] theorem sT' {α:Type}{xs:List α}:List.filter (λ_=>true) xs=xs:=by
 induction xs with
 | nil=>rfl
 | cons x xs ih=>simp
theorem kd' {tgt:D->M Unit}{ts:M Bool}{el:M D}{it:M (List D)}{Γ:Gm}{QL:List D->Gm->Prop} (J:Nat->List D->Gm->Prop)
  (h:wp it Γ λds Γ1=>ds.length<=lim/\J 0 [] Γ1/\(∀ (i:Nat) d acc a Γ2,ds[i]?=some d->J i acc Γ2->wp (tgt d) (a::Γ2) λ_ Γ3=>wp ts Γ3 λb Γ4=>b=true/\wp el Γ4 λx Γ5=>∃ a' Γ6,Γ5=a'::Γ6/\J (i+1) (acc++[x]) Γ6)/\∀ acc Γ2,J ds.length acc Γ2->QL acc Γ2):wp (compO 1 it tgt ts el) Γ QL:=by
 unfold compO
 rw [aG']
 refine h.mono λds Γ1 ⟨hl,h0,hs,hq⟩=>?_
 rw [if_pos hl]
 have key:∀ (es:List D) (i:Nat) (acc:List D) (a:Option R) (Γ2:Gm),ds.drop i=es->i<=ds.length->J i acc Γ2->∃ r a' Γe,compM tgt ts el es (a::Γ2)=some (r,a'::Γe)/\J ds.length (acc++r) Γe:=by
  intro es
  induction es with
  | nil =>
   intro i acc a Γ2 hd hi hj
   have:i=ds.length:=by
    have:=List.drop_eq_nil_iff.mp hd
    omega
   subst this
   exact ⟨[],a,Γ2,rfl,by simpa using hj⟩
  | cons d es ih =>
   intro i acc a Γ2 hd hi hj
   have hlt:i < ds.length:=by
    rcases Nat.lt_or_ge i ds.length with z | z
    ·exact z
    ·rw [List.drop_eq_nil_of_le z] at hd;cases hd
   have e1:ds[i]?=some d:=by
    have:=List.drop_eq_getElem_cons hlt
    rw [hd] at this
    cases this
    exact List.getElem?_eq_getElem hlt
   have e2:ds.drop (i+1)=es:=by
    have:=List.drop_eq_getElem_cons hlt
    rw [hd] at this
    injection this with _ q
    exact q.symm
   obtain ⟨_,Γ3,g1,b,Γ4,g2,rfl,x,Γ5,g3,a',Γ6,rfl,hj'⟩:=hs i d acc a Γ2 e1 hj
   obtain ⟨r,a'',Γe,g4,hj''⟩:=ih (i+1) (acc++[x]) a' Γ6 e2 hlt hj'
   refine ⟨x::r,a'',Γe,?_,by simpa using hj''⟩
   rw [compM]
   unfold bnd
   rw [g1]
   dsimp only
   rw [g2]
   dsimp only
   rw [if_pos rfl]
   rw [g3]
   dsimp only
   rw [g4]
   rfl
 obtain ⟨r,a',Γe,e,hj⟩:=key ds 0 [] none Γ1 rfl (Nat.zero_le _) h0
 refine ⟨r,Γe,?_,hq r Γe (by simpa using hj)⟩
 have e':compM tgt ts el ds (List.replicate 1 none++Γ1)=some (r,a'::Γe):=e
 unfold inC
 rw [e']
 rfl
section
open PySem PySem.Spec
def Rp (L:Nat):Nat->D->Prop
 | 0,_=>False
 | k+1,.tup ds=>ds.length<=L/\∀ d∈ds,Rp L k d
 | k+1,.lst ds=>ds.length<=L/\∀ d∈ds,Rp L k d
 | _+1,.int i=>i.natAbs < 10 ^ 31
 | _+1,.str x=>(PyData.shown (.str x)).length<=40
 | _+1,_=>True
theorem Rp.mono {L L':Nat} (hL:L<=L'):∀ {k k':Nat}{d:D},k<=k'->Rp L k d->Rp L' k' d
 | 0,_,_,_,h=>h.elim
 | k+1,0,_,hk,_=>absurd hk (Nat.not_succ_le_zero _)
 | k+1,k'+1,d,hk,h=>by
  cases d with
  | tup ds=>exact ⟨Nat.le_trans h.1 hL,λd hd=>Rp.mono hL (Nat.le_of_succ_le_succ hk) (h.2 d hd)⟩
  | lst ds=>exact ⟨Nat.le_trans h.1 hL,λd hd=>Rp.mono hL (Nat.le_of_succ_le_succ hk) (h.2 d hd)⟩
  | int i=>exact h
  | str x=>exact h
  | non=>trivial
  | bl b=>trivial
def shB (L:Nat):Nat->Nat
 | 0=>0
 | k+1=>42+L*(shB L k+2)
theorem h3':∀ ds:List D,pdA ds=ds.map pd
 | []=>by rw [pdA];rfl
 | d::ds=>by rw [pdA,h3' ds];rfl
theorem ei':∀ xs:List PyData,PyData.shownAll xs=xs.map PyData.shown
 | []=>by rw [PyData.shownAll];rfl
 | x::xs=>by rw [PyData.shownAll,ei' xs];rfl
theorem ke' {B:Nat}:∀ {ts:List PySem.Str},(∀ t∈ts,t.length<=B)->PySem.piled ts<=ts.length*(B+2)
 | [],_=>by simp [PySem.piled]
 | t::ts,h=>by
  rw [PySem.piled_cons,List.length_cons,Nat.succ_mul]
  have h1:=h t List.mem_cons_self
  have h2:=ke' (ts:=ts) λt ht=>h t (List.mem_cons_of_mem _ ht)
  omega
theorem qq' {B:Nat}{ts:List PySem.Str} (h:∀ t∈ts,t.length<=B):(PySem.Str.join ", " ts).length<=ts.length*(B+2):=by
 cases ts with
 | nil=>exact Nat.zero_le _
 | cons t ts =>
  have:=PySem.join_length_add (t::ts) (by simp)
  have:=ke' h
  omega
theorem rS' {B:Nat}{ts:List PySem.Str} (h:∀ t∈ts,t.length<=B):(PySem.tupleText ts).length<=3+ts.length*(B+2):=by
 have:=qq' h
 unfold PySem.tupleText
 rw [PySem.strLen_append,PySem.strLen_append]
 have e1:((("(":String):PySem.Str)).length=1:=rfl
 have e3:(((if ts.length == 1 then ",)" else ")":String):PySem.Str)).length<=2:=by split<;>decide
 omega
theorem lA' {B:Nat}:∀ {ts:List PySem.Str},(∀ t∈ts,t.length<=B)->(ts.map (·.length)).sum<=ts.length*B
 | [],_=>by simp
 | t::ts,h=>by
  rw [List.map_cons,List.sum_cons,List.length_cons,Nat.succ_mul]
  have h1:=h t List.mem_cons_self
  have h2:=lA' (ts:=ts) λt ht=>h t (List.mem_cons_of_mem _ ht)
  omega
theorem rT' {B:Nat}{ts:List PySem.Str} (h:∀ t∈ts,t.length<=B):(PySem.listText ts).length<=3+ts.length*(B+2):=by
 have:=lA' h
 unfold PySem.listText
 rw [PySem.strLen_append]
 have q:=PySem.textFrom_len_le ts 0 (PySem.Str.ofString "[")
 have e1:((PySem.Str.ofString "[")).length=1:=rfl
 have e3:((PySem.Str.ofString "]")).length=1:=rfl
 rw [Nat.mul_add]
 omega
theorem Rp.shown {L:Nat}:∀ {k:Nat}{d:D},Rp L k d->(pd d).showable=true/\(pd d).depth<=k/\(pd d).shown.length<=shB L k
 | 0,_,h=>h.elim
 | k+1,d,h=>by
  have each:∀ ds:List D,ds.length<=L->(∀ d∈ds,Rp L k d)->PyData.showableAll (pdA ds)=true/\PyData.depthAll (pdA ds)<=k/\∀ t∈PyData.shownAll (pdA ds),t.length<=shB L k:=λds _ hd=>by
   induction ds with
   | nil=>exact ⟨by rw [pdA,PyData.showableAll],by rw [pdA,PyData.depthAll];exact Nat.zero_le _,by rw [pdA,PyData.shownAll];simp⟩
   | cons d ds ih =>
    obtain ⟨a1,a2,a3⟩:=ih (by simp at *;omega) λd hd'=>hd d (List.mem_cons_of_mem _ hd')
    obtain ⟨b1,b2,b3⟩:=Rp.shown (hd d List.mem_cons_self)
    refine ⟨by rw [pdA,PyData.showableAll,b1,a1];rfl,by rw [pdA,PyData.depthAll];omega,λt ht=>?_⟩
    rw [pdA,PyData.shownAll] at ht
    rcases List.mem_cons.mp ht with rfl | ht
    ·exact b3
    ·exact a3 t ht
  have le:∀ n,n<=L->3+n*(shB L k+2)<=shB L (k+1):=λn hn=>by
   rw [shB]
   have:=Nat.mul_le_mul_right (shB L k+2) hn
   omega
  cases d with
  | tup ds =>
   obtain ⟨a1,a2,a3⟩:=each ds h.1 h.2
   refine ⟨by rw [pd,PyData.showable];exact a1,by rw [pd,PyData.depth];omega,?_⟩
   rw [pd,PyData.shown]
   refine Nat.le_trans (rS' a3) (Nat.le_trans (Nat.le_of_eq ?_) (le _ h.1))
   rw [ei',h3',List.length_map,List.length_map]
  | lst ds =>
   obtain ⟨a1,a2,a3⟩:=each ds h.1 h.2
   refine ⟨by rw [pd,PyData.showable];exact a1,by rw [pd,PyData.depth];omega,?_⟩
   rw [pd,PyData.shown]
   refine Nat.le_trans (rT' a3) (Nat.le_trans (Nat.le_of_eq ?_) (le _ h.1))
   rw [ei',h3',List.length_map,List.length_map]
  | int i =>
   have h:i.natAbs < 10 ^ 31:=h
   refine ⟨?_,by rw [pd,PyData.depth];exact Nat.zero_le _,?_⟩
   ·rw [pd,PyData.showable,decide_eq_true_eq]
    by_cases z:i.natAbs=0
    ·rw [z];decide
    ·rw [Nat.log2_lt z]
     exact Nat.lt_trans h (by decide +kernel)
   ·rw [pd,PyData.shown,shB]
    have:=PySem.int_text_length_le10 (k:=31) (by omega) h
    rw [PySem.ofString_length]
    omega
  | str x =>
   refine ⟨by rw [pd,PyData.showable],by rw [pd,PyData.depth];exact Nat.zero_le _,?_⟩
   rw [pd,shB]
   have h:(PyData.shown (.str x)).length<=40:=h
   omega
  | non =>
   refine ⟨by rw [pd,PyData.showable],by rw [pd,PyData.depth];exact Nat.zero_le _,?_⟩
   rw [pd,PyData.shown,shB]
   exact Nat.le_trans (show _<=4 from Nat.le_refl _) (by omega)
  | bl b =>
   refine ⟨by rw [pd,PyData.showable],by rw [pd,PyData.depth];exact Nat.zero_le _,?_⟩
   rw [pd,PyData.shown,shB]
   cases b
   ·exact Nat.le_trans (show _<=5 from Nat.le_refl _) (by omega)
   ·exact Nat.le_trans (show _<=4 from Nat.le_refl _) (by omega)
end
def roadB (n:Int):D->Bool
 | .tup [.int a,.int b]=>decide (0<=a)&&(decide (a < b)&&decide (b < n))
 | _=>false
theorem nX' {n:Int}{d:D} (h:roadB n d=true):∃ r:Int×Int,d=pairD r/\0<=r.1/\r.1 < r.2/\r.2 < n:=by
 unfold roadB at h
 split at h
 ·rename_i a b
  simp only [Bool.and_eq_true,decide_eq_true_eq] at h
  exact ⟨(a,b),rfl,h.1,h.2.1,h.2.2⟩
 ·cases h
theorem me' {n:Int}{r:Int×Int} (h:0<=r.1/\r.1 < r.2/\r.2 < n):roadB n (pairD r)=true:=by
 unfold pairD roadB
 simp only [Bool.and_eq_true,decide_eq_true_eq]
 exact h
theorem fD' {n:Int}:∀ {ds:List D},(∀ d∈ds,roadB n d=true)->∃ rs:List (Int×Int),ds=rs.map pairD/\∀ r∈rs,0<=r.1/\r.1 < r.2/\r.2 < n
 | [],_=>⟨[],rfl,λr h=>by cases h⟩
 | d::ds,h=>by
  obtain ⟨r,rfl,h1⟩:=nX' (h d List.mem_cons_self)
  obtain ⟨rs,rfl,h2⟩:=fD' (ds:=ds) λx hx=>h x (List.mem_cons_of_mem _ hx)
  refine ⟨r::rs,rfl,λq hq=>?_⟩
  rcases List.mem_cons.mp hq with rfl | hq
  ·exact h1
  ·exact h2 q hq
theorem fE' (d:D):cvF a7' [d]=some (.bl (match d with | .int _=>true | _=>false)):=by
 cases d<;>rfl
theorem mf' (n:Int) (d:D):cvF dH' [.int n,d]=some (.bl (roadB n d)):=by
 cases d with
 | tup ds =>
  refine c5' rfl λKE k1 _=>?_
  rw [er']
  refine af' ?_;rintro K hK hR
  by_cases h:ds.length=2
  ·match ds,h with
   | [x,y],_ =>
    simp [dep,aE']
    refine hK _ ?_
    have e1:=fE' x
    have e2:=fE' y
    have i0:atI [x,y] 0=some x:=rfl
    have i1:atI [x,y] 1=some y:=rfl
    have bad:(∀ a b,x=.int a->y=.int b->False)->KE (.rt (.val (.bl false))) [some (.val (.int n)),some (.val (.tup [x,y]))]:=λz=>by
     have:roadB n (.tup [x,y])=false:=by
      unfold roadB
      split
      ·rename_i z2;cases z2;exact (z _ _ rfl rfl).elim
      ·rfl
     rw [this] at k1
     exact k1 _ ⟨_,rfl⟩
    cases x with
    | int a =>
     cases y with
     | int b =>
      simp [i0,i1,e1,e2]
      by_cases c1:0<=a
      ·by_cases c2:a < b
       ·have:roadB n (.tup [.int a,.int b])=decide (b < n):=by simp [roadB,c1,c2]
        rw [this] at k1
        simp [c1,c2]
        exact k1 _ ⟨_,rfl⟩
       ·have:roadB n (.tup [.int a,.int b])=false:=by simp [roadB,c2]
        rw [this] at k1
        simp [c1,c2]
        exact k1 _ ⟨_,rfl⟩
      ·have:roadB n (.tup [.int a,.int b])=false:=by simp [roadB,c1]
       rw [this] at k1
       simp [c1]
       exact k1 _ ⟨_,rfl⟩
     | non=>simp [i0,i1,e1,e2];exact bad λa b _ z=>by cases z
     | bl b=>simp [i0,i1,e1,e2];exact bad λa b _ z=>by cases z
     | str b=>simp [i0,i1,e1,e2];exact bad λa b _ z=>by cases z
     | tup b=>simp [i0,i1,e1,e2];exact bad λa b _ z=>by cases z
     | lst b=>simp [i0,i1,e1,e2];exact bad λa b _ z=>by cases z
    | non=>simp [i0,i1,e1,e2];exact bad λa b z=>by cases z
    | bl b=>simp [i0,i1,e1,e2];exact bad λa b z=>by cases z
    | str b=>simp [i0,i1,e1,e2];exact bad λa b z=>by cases z
    | tup b=>simp [i0,i1,e1,e2];exact bad λa b z=>by cases z
    | lst b=>simp [i0,i1,e1,e2];exact bad λa b z=>by cases z
  ·have h':¬ (ds.length:Int)=2:=by omega
   have:roadB n (.tup ds)=false:=by
    unfold roadB
    split
    ·rename_i z;cases z;exact absurd rfl h
    ·rfl
   rw [this] at k1
   simp [dep,aE',h']
   exact hR _ _ (k1 _ ⟨_,rfl⟩)
 | non=>rfl
 | bl b=>rfl
 | str x=>rfl
 | int i=>rfl
 | lst ds=>rfl
def allP:List D:=((List.range 8).flatMap λ(b:Nat)=>(List.range b).map λ(a:Nat)=>pairD ((a:Int),(b:Int)))
theorem o6':allP.length=28:=rfl
theorem o7' {n:Nat} (n8:n<=8){r:Int×Int} (h:0<=r.1/\r.1 < r.2/\r.2 < n):pairD r∈allP:=by
 unfold allP
 rw [List.mem_flatMap]
 refine ⟨r.2.toNat,List.mem_range.mpr (by omega),List.mem_map.mpr ⟨r.1.toNat,List.mem_range.mpr (by omega),?_⟩⟩
 have h1:((r.1.toNat:Nat):Int)=r.1:=by omega
 have h2:((r.2.toNat:Nat):Int)=r.2:=by omega
 rw [h1,h2]
section
variable {n:Nat}{rs:List (Int×Int)}
theorem nY' (n8:n<=8) (lt:∀ r∈rs,0<=r.1/\r.1 < r.2/\r.2 < n):(dd (rs.map pairD)).length<=28:=by
 rw [← o6']
 refine eo' _ _ (eW' _) λx hx=>?_
 obtain ⟨r,hr,rfl⟩:=List.mem_map.mp (eb' hx)
 exact o7' n8 (lt r hr)
theorem lB' (n8:n<=8) (lt:∀ r∈rs,0<=r.1/\r.1 < r.2/\r.2 < n):setTF [.tup (rs.map pairD)]=some (sortD (dd (rs.map pairD))):=by
 unfold setTF
 simp only
 rw [if_pos]
 refine ⟨⟨gr' rs,?_,?_,?_,nY' n8 lt⟩,.inl ?_⟩
 ·rw [List.all_eq_true];intro a ha;obtain ⟨i,_,rfl⟩:=List.mem_map.mp ha;rfl
 ·rw [List.all_eq_true];intro a ha;obtain ⟨i,_,rfl⟩:=List.mem_map.mp ha;rfl
 ·refine Nat.le_trans (bx' (n:=1) λd hd=>?_) (by omega)
  obtain ⟨p,_,rfl⟩:=List.mem_map.mp hd
  exact cM'
 ·rw [List.all_eq_true];intro a ha;obtain ⟨i,_,rfl⟩:=List.mem_map.mp ha;rfl
theorem iJ':∀ {ds:List D},(∀ d∈ds,∃ r,d=pairD r)->∃ qs:List (Int×Int),ds=qs.map pairD
 | [],_=>⟨[],rfl⟩
 | d::ds,h=>by
  obtain ⟨r,rfl⟩:=h d List.mem_cons_self
  obtain ⟨qs,rfl⟩:=iJ' (ds:=ds) λx hx=>h x (List.mem_cons_of_mem _ hx)
  exact ⟨r::qs,rfl⟩
theorem g9':∀ (ps qs:List (Int×Int)),deqA (ps.map pairD) (qs.map pairD)=decide (ps=qs)
 | [],[]=>by simp [deqA]
 | [],q::qs=>by simp [deqA]
 | p::ps,[]=>by simp [deqA]
 | p::ps,q::qs=>by
  rw [List.map_cons,List.map_cons,deqA,j9',g9' ps qs]
  by_cases h1:p=q<;>by_cases h2:ps=qs<;>simp [h1,h2]
theorem hf' (h:deqA (rs.map pairD) (sortD (dd (rs.map pairD)))=true):rs.Nodup/\Rise rs:=by
 have pm:(sortD (dd (rs.map pairD))).Perm (dd (rs.map pairD)):=List.mergeSort_perm _ _
 obtain ⟨qs,e⟩:=iJ' (ds:=sortD (dd (rs.map pairD))) λd hd=>by
  obtain ⟨r,_,rfl⟩:=List.mem_map.mp (eb' (pm.mem_iff.mp hd))
  exact ⟨r,rfl⟩
 have up:=ea' (dd (rs.map pairD))
 rw [e] at h pm up
 rw [g9',decide_eq_true_eq] at h
 subst h
 refine ⟨?_,up⟩
 have nd:=pm.symm.nodup (eW' _)
 exact List.Pairwise.of_map pairD (λa b h e=>h (by rw [e])) nd
theorem mg' (nd:rs.Nodup) (ri:Rise rs):sortD (dd (rs.map pairD))=rs.map pairD:=by rw [e9' nd,iH' ri]
theorem lC' {xs ys:List D}:deq (.lst xs) (.lst ys)=deqA xs ys:=by rw [deq]
theorem kf' (n8:n<=8) (lt:∀ r∈rs,0<=r.1/\r.1 < r.2/\r.2 < n) (nd:rs.Nodup):rs.length<=28:=by
 have:=nY' n8 lt
 rw [e9' nd] at this
 simpa using this
end
def IsWeb (d:D):Prop:=∃ n rs,d=webD n rs/\Rise rs/\∃ rk,Web n rs rk
theorem gs' {n m:Nat}{rs qs:List (Int×Int)} (h:webD n rs=webD m qs):n=m/\rs=qs:=by
 unfold webD at h
 injection h with h
 injection h with h1 h2
 injection h1 with h1
 injection h2 with h2 _
 injection h2 with h2
 refine ⟨by omega,?_⟩
 exact (List.map_inj_right λa b=>nU').mp h2
theorem iK' {d:D} (hd:∀ m ds,d=.tup [m,.tup ds]->ds.length<=1000){v:Bool} (hv:v=true↔IsWeb d):cvF cg' [d]=some (.bl v):=by
 by_cases leg:∃ (n:Nat) (rs:List (Int×Int)),d=webD n rs/\1<=n/\n<=8/\(∀ r∈rs,0<=r.1/\r.1 < r.2/\r.2 < n)/\rs.Nodup/\Rise rs
 ·obtain ⟨n,rs,rfl,n1,n8,lt,nd,ri⟩:=leg
  refine o5' n1 n8 lt nd ri (kf' n8 lt nd) (hv.trans ⟨?_,λh=>⟨n,rs,rfl,ri,h⟩⟩)
  rintro ⟨m,qs,e,_,rk,W⟩
  obtain ⟨rfl,rfl⟩:=gs' e
  exact ⟨rk,W⟩
 ·have vf:v=false:=by
   cases v with
   | false=>rfl
   | true =>
    obtain ⟨n,rs,e,ri,rk,W⟩:=hv.mp rfl
    exact absurd ⟨n,rs,e,W.n1,W.n8,W.lt,W.nd,ri⟩ leg
  subst vf
  refine c5' rfl λKE k1 _=>?_
  rw [e0']
  refine af' ?_;rintro K hK hR
  have bad:∀ Γ,(∃ l,fin (List.map R.val [d]) Γ=some l)->KE (.rt (.val (.bl false))) Γ:=λΓ h=>k1 Γ h
  have odd:(∀ ds,d≠.tup ds)->wp (ifS (orT (notT (tst (un1 (isiF .tT) (nm 0)))) (tst (op2 (eqF true) (fn1 lenF (consA (nm 0) nilA)) (ret (.int 2))))) (retS (ret (.bl false))) (ret .nx)) [some (.val d),none,none] K:=λnt=>by
   have nt:isiB .tT d=false:=by cases d<;>first | rfl | exact absurd rfl (nt _)
   simp [nt]
   exact hR _ _ (bad _ ⟨_,rfl⟩)
  cases d with
  | tup es =>
   by_cases h:es.length=2
   ·match es,h with
    | [m,r],_ =>
     clear odd
     simp [dep,aE']
     refine hK _ ?_
     have i0:atI [m,r] 0=some m:=rfl
     have i1:atI [m,r] 1=some r:=rfl
     refine af' ?_;rintro K hK -
     simp [i0]
     refine hK _ ?_
     refine af' ?_;rintro K hK -
     simp [i1]
     refine hK _ ?_
     have e1:=fE' m
     refine af' ?_;rintro K hK hR
     have noint:(∀ i,m≠.int i)->wp (ifS (orT (notT (tst (fn1 (cvF a7') (consA (nm 1) nilA)))) (orT (notT (tst (chn leI leI (ret (.int 1)) (nm 1) (ret (.int 8))))) (notT (tst (un1 (isiF .tT) (nm 2))))))
  (retS (ret (.bl false))) (ret .nx)) [some (.val (.tup [m,r])),some (.val m),some (.val r)] K:=λni=>by
      have ew:cvF a7' [m]=some (.bl false):=by rw [e1];cases m<;>first | rfl | exact absurd rfl (ni _)
      simp [ew]
      exact hR _ _ (bad _ ⟨_,rfl⟩)
     cases m with
     | int i =>
      clear noint
      simp [e1]
      by_cases c1:1<=i
      ·by_cases c2:i<=8
       ·have nor:(∀ ds,r≠.tup ds)->isiB .tT r=false:=λnt=>by cases r<;>first | rfl | exact absurd rfl (nt _)
        by_cases rt:∃ ds,r=.tup ds
        ·obtain ⟨ds,rfl⟩:=rt
         simp [c1,c2]
         refine hK _ ?_
         have l:=hd _ _ rfl
         refine af' ?_;rintro K hK hR
         simp
         refine dm' ds (λx=>x) (λ_=>true) (λx=>.bl (roadB i x)) ?_
         simp
         refine ⟨by omega,λx hx=>by simp [mf' i x],?_⟩
         rw [ee']
         cases al:ds.all (roadB i) with
         | false =>
          have al':(List.filter (λ_=>true) ds).all (roadB i)=false:=by simpa using al
          simp [al]
          exact hR _ _ (bad _ ⟨_,rfl⟩)
         | true =>
          obtain ⟨rs,rfl,lt⟩:=fD' (List.all_eq_true.mp al)
          obtain ⟨n,rfl⟩:∃ n:Nat,i=n:=⟨i.toNat,by omega⟩
          simp [al]
          refine hK _ ?_
          have e2:=lB' (n:=n) (by omega) lt
          simp [e2]
          have d1:depA (rs.map pairD)<=1:=bx' λd hd=>by
           obtain ⟨p,_,rfl⟩:=List.mem_map.mp hd
           exact cM'
          refine ⟨.inl (by rw [dep];omega),?_⟩
          rw [lC']
          cases q:deqA (rs.map pairD) (sortD (dd (rs.map pairD))) with
          | true =>
           obtain ⟨nd,ri⟩:=hf' q
           exact absurd ⟨n,rs,rfl,by omega,by omega,lt,nd,ri⟩ leg
          | false =>
           simp
           exact bad _ ⟨_,rfl⟩
        ·simp [c1,c2,nor λds z=>rt ⟨ds,z⟩]
         exact hR _ _ (bad _ ⟨_,rfl⟩)
       ·simp [c1,c2]
        exact hR _ _ (bad _ ⟨_,rfl⟩)
      ·simp [c1]
       exact hR _ _ (bad _ ⟨_,rfl⟩)
     | non=>exact noint λi z=>by cases z
     | bl b=>exact noint λi z=>by cases z
     | str b=>exact noint λi z=>by cases z
     | tup b=>exact noint λi z=>by cases z
     | lst b=>exact noint λi z=>by cases z
   ·have h':¬ (es.length:Int)=2:=by omega
    simp [dep,aE',h']
    exact hR _ _ (bad _ ⟨_,rfl⟩)
  | non=>exact odd λi z=>by cases z
  | bl b=>exact odd λi z=>by cases z
  | str b=>exact odd λi z=>by cases z
  | int b=>exact odd λi z=>by cases z
  | lst b=>exact odd λi z=>by cases z
def whB (m:Int):D->Bool
 | .int i=>decide (0<=i)&&decide (i < m)
 | _=>false
theorem ej' (m:Int) (d:D):cvF b3' [d,.int m]=some (.bl (whB m d)):=by
 cases d with
 | int i =>
  refine c5' rfl λKE k1 _=>?_
  rw [ey']
  simp
  by_cases h:0<=i
  ·have q:whB m (.int i)=decide (i < m):=by simp [whB,h]
   rw [q] at k1
   simp [h]
   exact k1 _ ⟨_,rfl⟩
  ·have q:whB m (.int i)=false:=by simp [whB,h]
   rw [q] at k1
   simp [h]
   exact k1 _ ⟨_,rfl⟩
 | non=>rfl
 | bl b=>rfl
 | str x=>rfl
 | tup ds=>rfl
 | lst ds=>rfl
theorem rU' {L:List (Int×Int)}{v:Int} (h:L.length<=100):cntF (.lst ((endsL L).map D.int)) [.int v]=some (.int (dg L v:Nat)):=by
 unfold cntF
 have e:intsD ((endsL L).map D.int)=some (endsL L):=iE' _
 simp only [e]
 rw [if_pos (by unfold endsL;simp;omega)]
 rfl
@[simp ↓] theorem tG' {i:Nat}{t:M (List D)}{Γ:Gm}{Q:D->Gm->Prop}:wp (cntV i t) Γ Q↔wp (nm i) Γ λa Γ1=>wp t Γ1 λds Γ2=>wp (lft (cntF a ds)) Γ2 Q:=by simp only [cntV,aG']
theorem nZ' {n:Nat}{rs:List (Int×Int)} (n1:1<=n) (n8:n<=8) (lt:∀ r∈rs,0<=r.1/\r.1 < r.2/\r.2 < n) (nd:rs.Nodup){v:Bool} (hv:v=true↔∃ rk,Web n rs rk):cvF bw' [.int n,.tup (rs.map pairD)]=some (.bl v):=by
 have l28:=kf' n8 lt nd
 have hN:∀ M:List (Int×Int),∀ v u,u∈nbX M v↔Adj M v u:=λM v u=>by
  unfold nbX Adj
  rw [List.mem_filterMap]
  constructor
  ·rintro ⟨⟨a,b⟩,hr,e⟩
   simp only at e
   split at e
   ·rename_i z;cases e;subst z;exact .inl hr
   ·split at e
    ·rename_i z;cases e;subst z;exact .inr hr
    ·cases e
  ·rintro (h | h)
   ·exact ⟨_,h,by simp⟩
   ·by_cases z:u=v
    ·subst z;exact ⟨_,h,by simp⟩
    ·exact ⟨_,h,by simp [z]⟩
 refine c5' rfl λKE k1 _=>?_
 rw [ch']
 refine af' ?_;rintro K hK -
 simp
 refine hK _ ?_
 refine af' ?_;rintro K hK -
 simp
 refine hK _ ?_
 refine af' ?_;rintro K hK -
 refine nK' (J:=λm Γ=>∃ (L:List (Int×Int)) (z:Int) (x4:Option R),(∀ r∈L,r∈rs)/\L.Nodup/\((∃ rk,Web n L rk)↔∃ rk,Web n rs rk)/\(z=L.length->prn L=L)/\(z≠L.length->L.length+1<=m)/\Γ=[some (.val (.int n)),some (.val (.tup (rs.map pairD))),some (.val (.lst (L.map pairD))),some (.val (.int z)),x4]) ?_ 100 40 _ (by omega) ⟨rs,-1,none,λr h=>h,nd,Iff.rfl,λz=>by omega,λ_=>by omega,rfl⟩
 rintro m Γ ⟨L,z,x4,sub,ndL,iff,fixd,meas,rfl⟩
 have lenL:L.length<=28:=kf' n8 (λr h=>lt r (sub r h)) ndL
 simp [aE',bJ']
 split
 ·rename_i e
  have fx:=fixd e
  refine hK _ ?_
  have:(L.map pairD).isEmpty=v:=by
   cases L with
   | nil =>
    have:=hv.mpr (iff.mp ⟨_,ly' n1 n8⟩)
    rw [this];rfl
   | cons a L =>
    cases v with
    | false=>rfl
    | true =>
     obtain ⟨rk,W⟩:=iff.mpr (hv.mp rfl)
     have:=W.leaf (by simp)
     rw [fx] at this
     omega
  simp [dep]
  rw [show L.isEmpty=v by cases L<;>simpa using this]
  exact ⟨.inr (by simp [depA]),k1 _ ⟨_,rfl⟩⟩
 ·rename_i ne
  have ms:=meas ne
  refine ⟨m - 1,by omega,?_⟩
  intro K2 hnx _ _ _
  refine af' ?_;rintro K3 hK3 -
  simp
  refine hK3 _ ?_;clear hK3
  refine af' ?_;rintro K3 hK3 -
  simp
  refine dn' L pairD (λ_=>true) (λr=>.int r.1) ?_
  simp [pairD]
  refine ⟨by omega,?_⟩
  refine dn' L pairD (λ_=>true) (λr=>.int r.2) ?_
  simp [pairD]
  refine ⟨by omega,by omega,hK3 _ ?_⟩;clear hK3
  have ee:(List.map (λr:Int×Int=>D.int r.1) L++List.map (λr=>D.int r.2) L)=(endsL L).map D.int:=by unfold endsL;rw [List.map_append,List.map_map,List.map_map];rfl
  rw [ee]
  have ct:=λv=>rU' (L:=L) (v:=v) (by omega)
  simp
  refine dm' L pairD (λr=>decide (dg L r.1 > 1)&&decide (dg L r.2 > 1)) pairD ?_
  simp
  refine ⟨by omega,λa b hr=>?_,?_⟩
  ·simp [ct]
   have c1:∀ v,(decide (1 < (dg L v:Int)))=decide (1 < dg L v):=λv=>by simp only [decide_eq_decide];omega
   split
   ·rename_i q
    rw [c1,decide_eq_true (show 1 < dg L a by omega)]
    rfl
   ·rename_i q
    omega
  ·refine hnx _ (prn L) (λa b hr=>sub _ (List.mem_filter.mp hr).1) (ndL.filter _) ((nW' hN (λr h=>lt r (sub r h)) ndL).trans iff) L.length (λe=>?_) (λne=>?_) _ rfl
   ·have e2:prn L=L:=by
     unfold prn at e ⊢
     exact List.filter_eq_self.mpr ((List.length_filter_eq_length_iff).mp (by omega))
    rw [e2,e2]
   ·have:(prn L).length<=L.length:=List.length_filter_le _ _
    omega
theorem kg' {d:D} (hd:∀ m ds,d=.tup [m,.tup ds]->ds.length<=1000){v:Bool} (hv:v=true↔IsWeb d):cvF ci' [d]=some (.bl v):=by
 refine c5' rfl λKE k1 _=>?_
 rw [ef']
 refine af' ?_;rintro K hK hR
 have bad:¬ IsWeb d->∀ Γ,(∃ l,fin (List.map R.val [d]) Γ=some l)->KE (.rt (.val (.bl false))) Γ:=λno Γ h=>by
  have:v=false:=by
   cases v with
   | false=>rfl
   | true=>exact absurd (hv.mp rfl) no
  subst this
  exact k1 Γ h
 have odd:(∀ ds,d≠.tup ds)->wp (ifS (orT (notT (tst (un1 (isiF .tT) (nm 0)))) (orT (tst (op2 (eqF true) (fn1 lenF (consA (nm 0) nilA)) (ret (.int 2)))) (orT (notT (tst (fn1 (cvF b3') (consA (op2 ixF (nm 0) (ret (.int 0))) (consA (ret (.int 9)) nilA))))) (tst (op2 (eqF false) (op2 ixF (nm 0) (ret (.int 0))) (ret (.int 0)))))))
  (retS (ret (.bl false))) (ret .nx)) [some (.val d),none,none,none] K:=λnt=>by
  have nt':isiB .tT d=false:=by cases d<;>first | rfl | exact absurd rfl (nt _)
  simp [nt']
  exact hR _ _ (bad (λ⟨n,rs,e,_⟩=>nt _ e) _ ⟨_,rfl⟩)
 cases d with
 | tup es =>
  clear odd
  by_cases h:es.length=2
  ·match es,h with
   | [m,r],_ =>
    have i0:atI [m,r] 0=some m:=rfl
    have e1:=ej' 9 m
    simp [dep,aE',i0,e1]
    cases hw:whB 9 m with
    | false =>
     simp
     refine hR _ _ (bad (λ⟨n,rs,e,_,rk,W⟩=>?_) _ ⟨_,rfl⟩)
     cases e
     have:=W.n8
     simp only [whB,Bool.and_eq_false_iff,decide_eq_false_iff_not] at hw
     omega
    | true =>
     obtain ⟨i,rfl⟩:∃ i,m=.int i:=by cases m<;>simp [whB] at hw ⊢
     simp only [whB,Bool.and_eq_true,decide_eq_true_eq] at hw
     simp [aE',bJ']
     split
     ·rename_i z
      refine hR _ _ (bad (λ⟨n,rs,e,_,rk,W⟩=>?_) _ ⟨_,rfl⟩)
      cases e
      have:=W.n1
      omega
     ·rename_i z
      refine hK _ ?_
      refine af' ?_;rintro K hK -
      simp
      refine hK _ ?_
      refine af' ?_;rintro K hK hR
      by_cases rt:∃ ds,r=.tup ds
      ·obtain ⟨ds,rfl⟩:=rt
       simp
       refine hK _ ?_
       obtain ⟨n,rfl⟩:∃ n:Nat,i=n:=⟨i.toNat,by omega⟩
       have l:=hd _ _ rfl
       refine af' ?_;rintro K hK hR
       simp
       refine bF' (J:=λi Γ=>∃ x3,(∀ p∈ds.take i,roadB n p=true)/\Γ=[some (.val (.tup [.int n,.tup ds])),some (.val (.int n)),some (.val (.tup ds)),x3]) ⟨none,by simp,rfl⟩ ?_ ?_
       ·rintro i p Γ hp ⟨x3,all,rfl⟩ KL hnx - - hR3
        have tk:ds.take (i+1)=ds.take i++[p]:=by rw [List.take_succ,hp];rfl
        have pm:=List.mem_of_getElem? hp
        have bd:roadB n p=false->∀ Γ,(∃ l,fin (List.map R.val [.tup [.int n,.tup ds]]) Γ=some l)->KL (.rt (.val (.bl false))) Γ:=λz Γ hf=>by
         refine hR3 _ _ (hR _ _ (bad (λ⟨n',rs,e,_,rk,W⟩=>?_) _ hf))
         unfold webD at e
         injection e with e
         injection e with e1 e2
         injection e1 with e1
         injection e2 with e2 _
         injection e2 with e2
         subst e2
         obtain ⟨q,hq,rfl⟩:=List.mem_map.mp pm
         have:=W.lt q hq
         rw [me' (by omega)] at z
         cases z
        simp
        refine af' ?_;rintro K2 hK2 hR2
        by_cases pt:∃ qs,p=.tup qs
        ·obtain ⟨qs,rfl⟩:=pt
         by_cases h2:qs.length=2
         ·match qs,h2 with
          | [x,y],_ =>
           simp [dep,aE']
           refine dm' [x,y] (λx=>x) (λ_=>true) (λx=>.bl (whB n x)) ?_
           simp
           refine ⟨⟨by simp [ej'],by simp [ej']⟩,?_⟩
           have e3:=ee' (f:=whB n) (xs:=[x,y])
           simp at e3
           simp [e3]
           split
           ·rename_i ok
            refine hK2 _ ?_;clear hK2
            obtain ⟨a,rfl⟩:∃ a,x=.int a:=by cases x<;>simp [whB] at ok ⊢
            obtain ⟨b,rfl⟩:∃ b,y=.int b:=by cases y<;>simp [whB] at ok ⊢
            simp only [whB,Bool.and_eq_true,decide_eq_true_eq] at ok
            simp
            split
            ·rename_i ge
             refine bd ?_ _ ⟨_,rfl⟩
             simp [roadB]
             omega
            ·rename_i lt
             refine hnx _ ⟨_,λp hp=>?_,rfl⟩
             rw [tk] at hp
             rcases List.mem_append.mp hp with hp | hp
             ·exact all p hp
             ·rw [List.mem_singleton.mp hp]
              simp [roadB]
              omega
           ·rename_i no
            refine hR2 _ _ (bd ?_ _ ⟨_,rfl⟩)
            unfold roadB
            split
            ·rename_i z2
             cases z2
             simp only [whB,Bool.and_eq_true,decide_eq_true_eq,not_and] at no
             simp
             omega
            ·rfl
         ·have h':¬ (qs.length:Int)=2:=by omega
          simp [dep,aE',h']
          refine hR2 _ _ (bd ?_ _ ⟨_,rfl⟩)
          unfold roadB
          split
          ·rename_i z;cases z;exact absurd rfl h2
          ·rfl
        ·have nt:isiB .tT p=false:=by cases p<;>first | rfl | exact absurd ⟨_,rfl⟩ pt
         simp [nt]
         refine hR2 _ _ (bd ?_ _ ⟨_,rfl⟩)
         unfold roadB
         split
         ·exact absurd ⟨_,rfl⟩ pt
         ·rfl
       ·rintro Γ ⟨x3,all,rfl⟩
        rw [List.take_length] at all
        refine hK _ ?_
        obtain ⟨rs,rfl,lt⟩:=fD' all
        have e2:=lB' (n:=n) (by omega) lt
        simp [e2]
        have d1:depA (rs.map pairD)<=1:=bx' λd hd=>by
         obtain ⟨p,_,rfl⟩:=List.mem_map.mp hd
         exact cM'
        refine ⟨.inl (by rw [dep];omega),?_⟩
        rw [lC']
        cases q:deqA (rs.map pairD) (sortD (dd (rs.map pairD))) with
        | true =>
         obtain ⟨nd,ri⟩:=hf' q
         have e4:=nZ' (n:=n) (by omega) (by omega) lt nd (v:=v) (hv.trans ⟨λ⟨m,qs,e,_,rk,W⟩=>by
          obtain ⟨rfl,rfl⟩:=gs' (n:=n) (rs:=rs) e
          exact ⟨rk,W⟩,λh=>⟨n,rs,rfl,ri,h⟩⟩)
         simp [e4]
         exact k1 _ ⟨_,rfl⟩
        | false =>
         simp
         refine bad (λ⟨m,qs,e,ri,rk,W⟩=>?_) _ ⟨_,rfl⟩
         obtain ⟨rfl,rfl⟩:=gs' (n:=n) (rs:=rs) e
         rw [mg' W.nd ri,bL'] at q
         cases q
      ·have nt:isiB .tT r=false:=by cases r<;>first | rfl | exact absurd ⟨_,rfl⟩ rt
       simp [nt]
       exact hR _ _ (bad (λ⟨n,rs,e,_⟩=>by cases e;exact rt ⟨_,rfl⟩) _ ⟨_,rfl⟩)
  ·have h':¬ (es.length:Int)=2:=by omega
   simp [dep,aE',h']
   exact hR _ _ (bad (λ⟨n,rs,e,_⟩=>by cases e;exact h rfl) _ ⟨_,rfl⟩)
 | non=>exact odd λi z=>by cases z
 | bl b=>exact odd λi z=>by cases z
 | str b=>exact odd λi z=>by cases z
 | int b=>exact odd λi z=>by cases z
 | lst b=>exact odd λi z=>by cases z
def Fine (d:D):Prop:=Rp 10 5 d\/Rp 28 4 d
theorem ay' {L k:Nat}{i:Int} (h:i.natAbs < 10 ^ 31):Rp L (k+1) (.int i):=h
theorem kh' {L k:Nat}{d:D} (h:Rp L k d) (hk:k<=50) (hs:shB L k<=16000000):reprG [d]=some (.str (pd d).shown):=by
 obtain ⟨h1,h2,h3⟩:=h.shown
 unfold reprG
 simp only
 rw [if_pos ⟨h1,by omega,by rw [PySem.sizeLine_eq];omega⟩]
theorem Fine.shown {d:D} (h:Fine d):reprG [d]=some (.str (pd d).shown):=by
 rcases h with h | h
 ·exact kh' h (by omega) (by decide)
 ·exact kh' h (by omega) (by decide)
theorem Fine.len {d:D} (h:Fine d):∀ m ds,d=.tup [m,.tup ds]->ds.length<=1000:=by
 rintro m ds rfl
 rcases h with h | h
 ·have:=(h.2 (.tup ds) (by simp)).1;omega
 ·have:=(h.2 (.tup ds) (by simp)).1;omega
def Sm (r:Int×Int):Prop:=0<=r.1/\r.1 < 8/\0<=r.2/\r.2 < 8
theorem fS' {L k:Nat} (hL:2<=L){r:Int×Int} (h:Sm r):Rp L (k+2) (pairD r):=by
 unfold Sm at h
 refine ⟨by simpa using hL,λe he=>?_⟩
 simp at he
 rcases he with rfl | rfl
 ·exact ay' (by omega)
 ·exact ay' (by omega)
theorem dL' {L k:Nat} (hL:1<=L){x:D} (h:Rp L k x):Rp L (k+1) (.tup [x]):=⟨by simpa using hL,λd hd=>by rw [List.mem_singleton.mp hd];exact h⟩
theorem aT' {L k:Nat} (hL:2<=L){x y:D} (h:Rp L k x) (h':Rp L k y):Rp L (k+1) (.tup [x,y]):=⟨by simpa using hL,λd hd=>by
 simp at hd
 rcases hd with rfl | rfl
 ·exact h
 ·exact h'⟩
theorem cj' {L k:Nat} (hL:2<=L){rs:List (Int×Int)} (hl:rs.length<=L) (h:∀ r∈rs,Sm r):Rp L (k+3) (.tup (rs.map pairD)):=by
 refine ⟨by simpa using hl,λd hd=>?_⟩
 obtain ⟨r,hr,rfl⟩:=List.mem_map.mp hd
 exact fS' hL (h r hr)
theorem Web.sm {n:Nat}{rs:List (Int×Int)}{rk:Int->Nat} (W:Web n rs rk):∀ r∈rs,Sm r:=λr hr=>by
 have:=W.lt r hr
 have:=W.n8
 unfold Sm
 omega
theorem gt' {n:Nat}{rs:List (Int×Int)}{rk:Int->Nat} (W:Web n rs rk):Fine (webD n rs):=by
 have:=W.few
 have:=W.n8
 exact .inl (aT' (by omega) (ay' (by omega)) (cj' (k:=1) (by omega) (by omega) W.sm))
theorem f4' {ps:List (Int×Int)} (h:ps.length < 64):sortTF [.tup (ps.map pairD)]=some ((sortP ps).map pairD)/\(sortP ps).Perm ps:=by
 refine ⟨?_,List.mergeSort_perm _ _⟩
 unfold sortTF
 simp only
 rw [if_pos]
 ·unfold sortD sortP
  exact congrArg some (List.map_mergeSort (s:=leD) (f:=pairD) λa _ b _=>rfl).symm
 ·refine ⟨by simpa using h,gr' ps,?_,.inr (.inl ?_)⟩
  ·refine Nat.le_trans (bx' (n:=1) λd hd=>?_) (by omega)
   obtain ⟨p,_,rfl⟩:=List.mem_map.mp hd
   exact cM'
  ·rw [List.all_eq_true]
   intro a ha
   obtain ⟨i,_,rfl⟩:=List.mem_map.mp ha
   rfl
theorem da' {g:M D}{gl gh:M (Option Int)}{Γ:Gm}{ds:List D}{Q:D->Gm->Prop} (eg:g Γ=some (.tup ds,Γ)) (h:wp gl Γ λlo Γ1=>wp gh Γ1 λhi Γ2=>Q (.tup (cutD ds lo hi)) Γ2):wp (altM (sl3 slF g gl gh) (sl3 slWF g gl gh)) Γ Q:=by
 obtain ⟨lo,Γ1,el,hi,Γ2,eh,q⟩:=h
 have go:∀ F:D->Option Int->Option Int->Option D,sl3 F g gl gh Γ=lft (F (.tup ds) lo hi) Γ2:=λF=>by
  unfold sl3 bnd
  rw [eg]
  dsimp only
  rw [el]
  dsimp only
  rw [eh]
 by_cases h:HT.sIx ds.length 0 lo=0/\HT.sIx ds.length ds.length hi=ds.length
 ·have e1:slF (.tup ds) lo hi=none:=by unfold slF;simp only;rw [if_pos h]
  have e2:slWF (.tup ds) lo hi=some (.tup ds):=by unfold slWF;simp only;rw [if_pos h]
  have e3:cutD ds lo hi=ds:=by
   unfold cutD
   rw [h.1,h.2]
   simp
  rw [e3] at q
  refine ⟨_,_,?_,q⟩
  unfold altM
  rw [go,go,e1,e2]
  rfl
 ·have e1:slF (.tup ds) lo hi=some (.tup (cutD ds lo hi)):=by unfold slF;simp only;rw [if_neg h]
  refine ⟨_,_,?_,q⟩
  unfold altM
  rw [go,e1]
  rfl
def fT (i:Nat):Nat:=[0,7,13,18,22,25,27,28,28].getD i 28
theorem qs':∀ i,i < 8->fT i+(7 - i)<=fT (i+1):=by decide
theorem pq':∀ i,i < 9->fT i<=28:=by decide
theorem kK' {c:List D}{Q:R->List D->Prop} (hc:PotOk c) (k:∀ d c',Fine d->PotOk c'->Q (.val d) c'):wpB ca' c [] Q:=by
 refine cS' rfl λKE hE _=>?_
 rw [c8']
 refine af' ?_;rintro K hK -
 simp [isMut,R.mut]
 refine aF' hc (by omega) (by omega) λsh c hs1 hs2 hc=>?_
 simp
 refine hK _ ?_
 refine af' ?_;rintro K hK -
 simp [isMut,R.mut]
 refine aF' hc (by omega) (by omega) λmn c hm1 hm2 hc=>?_
 simp
 refine hK _ ?_
 obtain ⟨m,em⟩:∃ m:Nat,1+mn=m:=⟨(1+mn).toNat,by omega⟩
 rw [em]
 have m8:m<=8:=by omega
 refine af' ?_;rintro K hK -
 simp
 refine hK _ ?_
 refine af' ?_;rintro K hK -
 simp
 refine ⟨by omega,?_⟩
 refine bF' (J:=λi Γ=>∃ c ps x4 x5,PotOk c/\(∀ r∈ps,Sm r)/\ps.length<=fT i/\Γ=[some (.bor c),some (.val (.int (1+sh))),some (.val (.int m)),some (.own (ps.map pairD)),x4,x5]) ⟨c,[],none,none,hc,by simp,by decide,rfl⟩ ?_ ?_
 ·rintro i d Γ hd ⟨c,ps,x4,x5,hc,sm,lp,rfl⟩ KL hnx - - -
  obtain ⟨rfl,hi⟩:=dt' hd
  have st:=qs' i (by omega)
  have le:=pq' i (by omega)
  simp
  refine ⟨by omega,?_⟩
  refine bF' (J:=λj Γ=>∃ c ps x5,PotOk c/\(∀ r∈ps,Sm r)/\ps.length<=fT i+j/\Γ=[some (.bor c),some (.val (.int (1+sh))),some (.val (.int m)),some (.own (ps.map pairD)),some (.val (.int i)),x5]) ⟨c,ps,x5,hc,sm,by omega,by simp⟩ ?_ ?_
  ·rintro j d Γ hd ⟨c,ps,x5,hc,sm,lp,rfl⟩ KL2 hnx2 - - -
   obtain ⟨rfl,hj⟩:=dt' hd
   simp [isMut,R.mut]
   refine aF' hc (by omega) (by omega) λp c hp1 hp2 hc=>?_
   simp [isMut,R.mut]
   split
   ·refine ⟨by omega,hnx2 _ ⟨c,ps++[((i:Int),(i:Int)+1+j)],some (.val (.int ((i:Int)+1+j))),hc,λr hr=>?_,by simp;omega,by simp [pairD]⟩⟩
    rcases List.mem_append.mp hr with h | h
    ·exact sm r h
    ·rw [List.mem_singleton.mp h]
     unfold Sm
     simp only
     omega
   ·exact hnx2 _ ⟨c,ps,_,hc,sm,by omega,rfl⟩
  ·rintro Γ ⟨c,ps,x5,hc,sm,lp,rfl⟩
   refine hnx _ ⟨c,ps,_,_,hc,sm,?_,rfl⟩
   rw [du'] at lp
   omega
 ·rintro Γ ⟨c,ps,x4,x5,hc,sm,lp,rfl⟩
  rw [du'] at lp
  have:=pq' m (by omega)
  refine hK _ ?_
  simp
  exact hE _ _ _ ⟨_,rfl⟩ (k _ c (.inr (aT' (by omega) (ay' (by omega)) (cj' (k:=0) (by omega) (by omega) sm))) hc)
theorem Sm.ints {L k:Nat}{r:Int×Int} (h:Sm r):Rp L (k+1) (.int r.1)/\Rp L (k+1) (.int r.2):=by
 unfold Sm at h
 exact ⟨ay' (by omega),ay' (by omega)⟩
theorem mh' {c:List D}{n:Nat}{rs:List (Int×Int)}{Q:R->List D->Prop} (n1:1<=n) (n8:n<=8) (hc:PotOk c) (k:∀ d c',Rp 10 3 d->PotOk c'->Q (.val d) c'):wpB cp' c [webD n rs] Q:=by
 refine cS' rfl λKE hE _=>?_
 rw [do']
 refine af' ?_;rintro K hK -
 simp
 refine hK _ ?_
 refine af' ?_;rintro K hK -
 simp [isMut,R.mut]
 refine aF' hc (by omega) (by omega) λway c hw1 hw2 hc=>?_
 simp
 refine hK _ ?_
 refine af' ?_;rintro K hK -
 simp [isMut,R.mut]
 refine aF' hc (by omega) (by omega) λa c ha1 ha2 hc=>?_
 simp
 refine hK _ ?_
 refine af' ?_;rintro K hK -
 simp [isMut,R.mut]
 refine aF' hc (by omega) (by omega) λb c hb1 hb2 hc=>?_
 simp
 refine hK _ ?_
 refine af' ?_;rintro K hK -
 refine ⟨_,_,rfl,hK _ ?_⟩
 obtain ⟨L,eL⟩:∃ L:List D,L=[.tup [.int b,.int a],.tup [.int a],.tup [.int a,.int b,.int a],.lst [.int a,.int b],.tup [.int a,.int n],.tup [.int (-1),.int a],.tup [.bl false,.int b],.tup [.int a,.str "1"]]:=⟨_,rfl⟩
 obtain ⟨L2,eL2⟩:∃ L2:List D,L2=[.non,.int a,.tup [.non,.int b],.tup [.tup [.int a,.int b]]]:=⟨_,rfl⟩
 show wp _ [some (.bor c),some (.val (webD n rs)),some (.val (.int n)),some (.val (.int way)),some (.val (.int a)),some (.val (.int b)),some (.val (.lst [.tup [.int b,.int a],.tup [.int a],.tup [.int a,.int b,.int a],.lst [.int a,.int b],.tup [.int a,.int n],.tup [.int (-1),.int a],.tup [.bl false,.int b],.tup [.int a,.str "1"]]))] _
 rw [← eL]
 have ll:L.length=8:=by rw [eL];rfl
 have l2:L2.length=4:=by rw [eL2];rfl
 have ok:∀ x∈L++L2,Rp 10 3 x:=by
  have ra:∀ k,Rp 10 (k+1) (.int a):=λk=>ay' (by omega)
  have rb:∀ k,Rp 10 (k+1) (.int b):=λk=>ay' (by omega)
  have rn:∀ k,Rp 10 (k+1) (.int n):=λk=>ay' (by omega)
  have rm:∀ k,Rp 10 (k+1) (.int (-1)):=λk=>ay' (by decide)
  intro x hx
  rw [eL,eL2] at hx
  simp only [List.mem_append,List.mem_cons,List.not_mem_nil,or_false] at hx
  rcases hx with (rfl | rfl | rfl | rfl | rfl | rfl | rfl | rfl) | (rfl | rfl | rfl | rfl)
  ·exact aT' (by omega) (rb 1) (ra 1)
  ·exact dL' (by omega) (ra 1)
  ·refine ⟨by simp,λy hy=>?_⟩
   simp only [List.mem_cons,List.not_mem_nil,or_false] at hy
   rcases hy with rfl | rfl | rfl
   ·exact ra 1
   ·exact rb 1
   ·exact ra 1
  ·refine ⟨by simp,λy hy=>?_⟩
   simp only [List.mem_cons,List.not_mem_nil,or_false] at hy
   rcases hy with rfl | rfl
   ·exact ra 1
   ·exact rb 1
  ·exact aT' (by omega) (ra 1) (rn 1)
  ·exact aT' (by omega) (rm 1) (ra 1)
  ·exact aT' (by omega) (show Rp 10 2 (.bl false) from trivial) (rb 1)
  ·exact aT' (by omega) (ra 1) (show (PySem.PyData.shown (.str "1")).length<=40 by decide +kernel)
  ·trivial
  ·exact ra 2
  ·exact aT' (by omega) (show Rp 10 2 .non from trivial) (rb 1)
  ·exact dL' (by omega) (aT' (by omega) (ra 0) (rb 0))
 clear eL
 simp [ll]
 rw [← eL2]
 obtain ⟨x,e,xm⟩:=ce' (ds:=L++L2) (i:=way) hw1 (by rw [List.length_append,ll,l2];omega)
 simp [e]
 exact hE _ _ _ ⟨_,rfl⟩ (k x c (ok x xm) hc)
theorem a9' {rs:List (Int×Int)}{lo hi:Option Int}:∃ qs:List (Int×Int),cutD (rs.map pairD) lo hi=qs.map pairD/\(∀ r∈qs,r∈rs)/\qs.length<=rs.length:=by
 obtain ⟨qs,e,h,l⟩:=hZ' (f:=pairD) (xs:=rs) (lo:=lo) (hi:=hi)
 exact ⟨qs,e,h,by omega⟩
theorem iL' {ps:List (Int×Int)}{at_:Int} (h0:0<=at_):(cutD (ps.map pairD) none (some at_)).length+(cutD (ps.map pairD) (some at_) none).length=ps.length:=by
 obtain ⟨m,rfl⟩:∃ m:Nat,at_=m:=⟨at_.toNat,by omega⟩
 rw [ed',eX']
 simp
 omega
theorem ki' {c:List D}{n:Nat}{rs:List (Int×Int)}{rk:Int->Nat}{way:Int}{Q:R->List D->Prop} (W:Web n rs rk) (hc:PotOk c) (k:∀ d c',Rp 10 4 d->PotOk c'->Q (.val d) c'):wpB bQ' c [.int way,webD n rs] Q:=by
 have n1:=W.n1
 have n8:=W.n8
 have few:=W.few
 have sm:=W.sm
 have rp:∀ {k:Nat}{qs:List (Int×Int)},(∀ r∈qs,r∈rs)->∀ x∈qs.map pairD,Rp 10 (k+2) x:=λ{k qs} h x hx=>by
  obtain ⟨r,hr,rfl⟩:=List.mem_map.mp hx
  exact fS' (by omega) (sm r (h r hr))
 refine cS' rfl λKE hE _=>?_
 rw [cK']
 refine af' ?_;rintro K hK -
 simp [webD]
 refine hK _ ?_
 refine af' ?_;rintro K hK -
 simp [isMut,R.mut]
 refine aF' hc (by omega) (by omega) λat_ c t1 t2 hc=>?_
 simp
 refine hK _ ?_
 obtain ⟨w,ew⟩:∃ w:D,w=.tup [.int n,.tup (rs.map pairD)]:=⟨_,rfl⟩
 rw [← ew]
 refine af' ?_;rintro K hK hR
 simp [aE',bJ']
 split
 ·refine af' ?_;rintro K2 hK2 -
  simp [isMut,R.mut]
  refine aF' hc (by omega) (by omega) λa c ha1 ha2 hc=>?_
  simp
  refine hK2 _ ?_;clear hK2
  refine af' ?_;rintro K2 hK2 -
  simp [isMut,R.mut]
  refine aF' hc (by omega) (by omega) λb c hb1 hb2 hc=>?_
  simp
  refine hK2 _ ?_;clear hK2
  refine af' ?_;rintro K2 hK2 -
  simp
  refine da' rfl ?_
  simp
  have l2:=iL' (ps:=rs) t1
  obtain ⟨q1,e1,s1,g1⟩:=a9' (rs:=rs) (lo:=none) (hi:=some at_)
  obtain ⟨q2,e2,s2,g2⟩:=a9' (rs:=rs) (lo:=some at_) (hi:=none)
  rw [e1,e2] at l2
  rw [e1]
  simp at l2
  refine ⟨by simp;omega,?_⟩
  refine da' rfl ?_
  simp
  rw [e2]
  refine ⟨by simp;omega,hK2 _ ?_⟩;clear hK2
  have e3:q1.map pairD++D.tup [D.int (min a b),D.int (max a b)]::q2.map pairD=(q1++(min a b,max a b)::q2).map pairD:=by simp [pairD]
  rw [e3]
  obtain ⟨ps,eps⟩:∃ ps,ps=q1++(min a b,max a b)::q2:=⟨_,rfl⟩
  have lps:ps.length<=10:=by rw [eps];simp;omega
  have sps:∀ r∈ps,Sm r:=λr hr=>by
   rw [eps] at hr
   rcases List.mem_append.mp hr with h | h
   ·exact sm r (s1 r h)
   ·rcases List.mem_cons.mp h with rfl | h
    ·unfold Sm;simp only;omega
    ·exact sm r (s2 r h)
  rw [← eps]
  simp [isMut,R.mut]
  refine aF' hc (by omega) (by omega) λz c hz1 hz2 hc=>?_
  simp [aE',bJ']
  split
  ·exact hR _ _ (hE _ _ _ ⟨_,rfl⟩ (k _ c (cj' (k:=1) (by omega) lps sps) hc))
  ·obtain ⟨e4,pm⟩:=f4' (ps:=ps) (by omega)
   simp [e4]
   exact hR _ _ (hE _ _ _ ⟨_,rfl⟩ (k _ c (cj' (k:=1) (by omega) (by rw [pm.length_eq];exact lps) λr hr=>sps r (pm.mem_iff.mp hr)) hc))
 refine hK _ ?_
 refine af' ?_;rintro K hK hR
 simp [aE',bJ']
 split
 ·refine da' rfl ?_
  simp
  obtain ⟨q1,e1,s1,g1⟩:=a9' (rs:=rs) (lo:=none) (hi:=some at_)
  rw [e1]
  simp [isMut,R.mut]
  rw [ew]
  refine mh' (rs:=rs) n1 n8 hc λo c ho hc=>?_
  simp
  refine ⟨by omega,?_⟩
  refine da' rfl ?_
  simp [isMut,R.mut]
  refine aF' hc (by omega) (by omega) λz c hz1 hz2 hc=>?_
  simp
  have le:q1.length+(cutD (rs.map pairD) (some (at_+z)) none).length<=rs.length:=by
   obtain ⟨m,rfl⟩:∃ m:Nat,at_=m:=⟨at_.toNat,by omega⟩
   obtain ⟨z,rfl⟩:∃ m:Nat,z=m:=⟨z.toNat,by omega⟩
   have e5:=congrArg List.length e1
   rw [ed'] at e5
   have:((m:Int)+(z:Int))=((m+z:Nat):Int):=by omega
   rw [this,eX']
   simp at e5 ⊢
   omega
  obtain ⟨q2,e2,s2,g2⟩:=a9' (rs:=rs) (lo:=some (at_+z)) (hi:=none)
  rw [e2] at le ⊢
  simp at le ⊢
  refine ⟨by omega,hR _ _ (hE _ _ _ ⟨_,rfl⟩ (k _ c ⟨by simp;omega,λx hx=>?_⟩ hc))⟩
  rcases List.mem_append.mp hx with h | h
  ·exact rp s1 x h
  ·rcases List.mem_cons.mp h with rfl | h
   ·exact ho
   ·exact rp s2 x h
 refine hK _ ?_
 refine af' ?_;rintro K hK hR
 simp [aE',bJ']
 split
 ·have rv:rvTF (.tup (rs.map pairD)) (.int (-1))=some (.tup (rs.map pairD).reverse):=by simp [rvTF]
  simp [rv]
  refine da' rfl ?_
  simp
  have l2:=iL' (ps:=rs) t1
  obtain ⟨q1,e1,s1,g1⟩:=a9' (rs:=rs) (lo:=none) (hi:=some at_)
  obtain ⟨q2,e2,s2,g2⟩:=a9' (rs:=rs) (lo:=some at_) (hi:=none)
  rw [e1,e2] at l2
  rw [e2]
  refine da' rfl ?_
  simp
  rw [e1]
  simp at l2
  refine ⟨by simp;omega,?_⟩
  refine da' rfl ?_
  simp
  obtain ⟨q3,e3,s3,g3⟩:=a9' (rs:=rs) (lo:=some (-1)) (hi:=none)
  have l3:q3.length<=1:=by
   have:=congrArg List.length e3
   unfold cutD HT.sIx at this
   simp at this
   omega
  rw [e3]
  refine ⟨by simp;omega,?_⟩
  simp [isMut,R.mut]
  refine aF' hc (by omega) (by omega) λz c hz1 hz2 hc=>?_
  obtain ⟨x,e,xm⟩:=ce' (ds:=[D.tup (rs.map pairD).reverse,.tup (q2.map pairD++q1.map pairD),.tup (rs.map pairD++q3.map pairD)]) (i:=z) hz1 (by simpa using hz2)
  simp [e]
  refine hR _ _ (hE _ _ _ ⟨_,rfl⟩ (k x c ?_ hc))
  simp only [List.mem_cons,List.not_mem_nil,or_false] at xm
  rcases xm with rfl | rfl | rfl
  ·exact ⟨by simp;omega,λx hx=>rp (λr h=>h) x (List.mem_reverse.mp hx)⟩
  ·refine ⟨by simp;omega,λx hx=>?_⟩
   rcases List.mem_append.mp hx with h | h
   ·exact rp s2 x h
   ·exact rp s1 x h
  ·refine ⟨by simp;omega,λx hx=>?_⟩
   rcases List.mem_append.mp hx with h | h
   ·exact rp (λr h=>h) x h
   ·exact rp s3 x h
 refine hK _ ?_
 refine af' ?_;rintro K hK hR
 simp [aE',bJ']
 split
 ·refine da' rfl ?_
  simp
  obtain ⟨q1,e1,s1,g1⟩:=a9' (rs:=rs) (lo:=none) (hi:=some at_)
  rw [e1]
  refine da' rfl ?_
  simp
  have le:q1.length+(cutD (rs.map pairD) (some (at_+1)) none).length<=rs.length:=by
   obtain ⟨m,rfl⟩:∃ m:Nat,at_=m:=⟨at_.toNat,by omega⟩
   have e5:=congrArg List.length e1
   rw [ed'] at e5
   have:((m:Int)+1)=((m+1:Nat):Int):=by omega
   rw [this,eX']
   simp at e5 ⊢
   omega
  obtain ⟨q2,e2,s2,g2⟩:=a9' (rs:=rs) (lo:=some (at_+1)) (hi:=none)
  rw [e2] at le ⊢
  simp at le ⊢
  refine ⟨by omega,hR _ _ (hE _ _ _ ⟨_,rfl⟩ (k _ c ⟨by simp;omega,λx hx=>?_⟩ hc))⟩
  rcases List.mem_append.mp hx with h | h
  ·exact rp s1 x h
  ·exact rp s2 x h
 refine hK _ ?_
 simp [isMut,R.mut]
 refine ⟨by omega,?_⟩
 refine aF' hc (by omega) (by omega) λz c hz1 hz2 hc=>?_
 obtain ⟨x,e,xm⟩:=ce' (ds:=[D.lst (rs.map pairD),.non,.tup [.tup (rs.map pairD)],.int 0,.str "0-1", .tup (rs.map pairD++[.tup []])]) (i:=z) hz1 (by simpa using hz2)
 simp [e]
 refine hE _ _ _ ⟨_,rfl⟩ (k x c ?_ hc)
 simp only [List.mem_cons,List.not_mem_nil,or_false] at xm
 rcases xm with rfl | rfl | rfl | rfl | rfl | rfl
 ·exact ⟨by simp;omega,λx hx=>rp (λr h=>h) x hx⟩
 ·trivial
 ·exact dL' (by omega) (cj' (k:=0) (by omega) (by omega) sm)
 ·exact ay' (by decide)
 ·show (PySem.PyData.shown (.str "0-1")).length<=40
  decide +kernel
 ·refine ⟨by simp;omega,λx hx=>?_⟩
  rcases List.mem_append.mp hx with h | h
  ·exact rp (λr h=>h) x h
  ·rw [List.mem_singleton.mp h]
   exact ⟨by simp,by simp⟩
theorem qt' {l:List Int} (h:0 < l.length):∃ x∈l,atI (l.map D.int) (-1)=some (.int x):=by
 refine ⟨l[l.length - 1],List.getElem_mem _,?_⟩
 unfold atI ixN
 rw [if_neg (by decide),if_pos (by simp;omega)]
 have e:((-1:Int)+((l.map D.int).length:Int)).toNat=l.length - 1:=by simp;omega
 rw [e]
 simp [List.getElem?_eq_getElem (show l.length - 1 < l.length by omega)]
theorem qu' {l:List Int} (h:0 < l.length):∃ x∈l,atI (l.map D.int) 0=some (.int x):=by
 cases l with
 | nil=>simp at h
 | cons x l=>exact ⟨x,List.mem_cons_self,by simp⟩
theorem qv' {i:Nat}{g:List R->Option (R×List R)}{t:M (List D)}{Γ:Gm}{Q:Fl->Gm->Prop} (h:wp t Γ λds Γ1=>∃ kvs,ckF g ds=some kvs/\i < Γ1.length/\Q .nx (Γ1.set i (some (.dic kvs)))):wp (setK i (fn1 (ckF g) t)) Γ Q:=by
 obtain ⟨ds,Γ1,e,kvs,e1,e2,q⟩:=h
 exact qm' e e1 e2 q
theorem qw' {c:List D}{n:Nat}{rs:List (Int×Int)}{rk:Int->Nat}{Q:R->List D->Prop} (W:Web n rs rk) (hc:PotOk c) (k:∀ d c',Fine d->PotOk c'->Q (.val d) c'):wpB dW' c [webD n rs] Q:=by
 have n1:=W.n1
 have n8:=W.n8
 have few:=W.few
 have sm:=W.sm
 have rn:∀ k,Rp 10 (k+1) (.int n):=λk=>ay' (by omega)
 have rr:∀ k,Rp 10 (k+3) (.tup (rs.map pairD)):=λk=>cj' (by omega) (by omega) sm
 refine cS' rfl λKE hE _=>?_
 rw [e5']
 refine af' ?_;rintro K hK -
 simp [isMut,R.mut]
 refine aF' hc (by omega) (by omega) λway c w1 w2 hc=>?_
 simp
 refine hK _ ?_
 refine af' ?_;rintro K hK -
 rw [show webD n rs=.tup [.int n,.tup (rs.map pairD)] from rfl]
 simp
 refine hK _ ?_
 rw [show D.tup [.int n,.tup (rs.map pairD)]=webD n rs from rfl]
 refine af' ?_;rintro K hK hR
 simp
 split
 ·simp [isMut,R.mut]
  refine ki' W hc λd c hd hc=>?_
  simp
  exact hR _ _ (hE _ _ _ ⟨_,rfl⟩ (k _ c (.inl (aT' (by omega) (rn 3) hd)) hc))
 refine hK _ ?_
 refine af' ?_;rintro K hK hR
 simp [aE',bJ']
 split
 ·refine af' ?_;rintro K2 hK2 -
  refine ⟨_,_,rfl,hK2 _ ?_⟩;clear hK2
  obtain ⟨L,eL⟩:∃ L:List D,L=[.int 0,.int 9,.int (n - 1),.int (n+1),.int (-1),.bl true,.str "3", .non,.tup [.int n],.int 8]:=⟨_,rfl⟩
  show wp _ [some (.bor c),some (.val (webD n rs)),some (.val (.int way)),some (.val (.int n)),some (.val (.tup (rs.map pairD))),some (.val (.lst [.int 0,.int 9,.int (n - 1),.int (n+1),.int (-1),.bl true,.str "3", .non,.tup [.int n],.int 8])),none,none,none,none] _
  rw [← eL]
  have ll:L.length=10:=by rw [eL];rfl
  have ok:∀ x∈L,Rp 10 4 x:=by
   intro x hx
   rw [eL] at hx
   simp only [List.mem_cons,List.not_mem_nil,or_false] at hx
   rcases hx with rfl | rfl | rfl | rfl | rfl | rfl | rfl | rfl | rfl | rfl
   ·exact ay' (by decide)
   ·exact ay' (by decide)
   ·exact ay' (by omega)
   ·exact ay' (by omega)
   ·exact ay' (by decide)
   ·trivial
   ·show (PySem.PyData.shown (.str "3")).length<=40
    decide +kernel
   ·trivial
   ·exact dL' (by omega) (rn 2)
   ·exact ay' (by decide)
  clear eL
  simp [isMut,R.mut]
  refine aF' hc (by omega) (by omega) λz c z1 z2 hc=>?_
  obtain ⟨x,e,xm⟩:=ce' (ds:=L) (i:=z) z1 (by omega)
  simp [e]
  exact hR _ _ (hE _ _ _ ⟨_,rfl⟩ (k _ c (.inl (aT' (by omega) (ok x xm) (rr 1))) hc))
 refine hK _ ?_
 refine af' ?_;rintro K hK hR
 refine rG'.mpr ⟨way == 6,_,rfl,?_⟩
 dsimp only
 by_cases w6:way=6
 ·rw [if_pos (by simp [w6])]
  refine qj'.mpr (nJ'.mpr ⟨.lst [D.tup [.int n],.tup [.int n,.tup (rs.map pairD),.tup (rs.map pairD)],.lst [.int n,.tup (rs.map pairD)],.tup (rs.map pairD),.int n],_,rfl,?_⟩)
  simp [isMut,R.mut]
  refine aF' hc (by omega) (by omega) λz c z1 z2 hc=>?_
  obtain ⟨x,e,xm⟩:=ce' (ds:=[D.tup [.int n],.tup [.int n,.tup (rs.map pairD),.tup (rs.map pairD)],.lst [.int n,.tup (rs.map pairD)],.tup (rs.map pairD),.int n]) (i:=z) z1 (by simpa using z2)
  simp [e]
  refine hR _ _ (hE _ _ _ ⟨_,rfl⟩ (k _ c (.inl ?_) hc))
  simp only [List.mem_cons,List.not_mem_nil,or_false] at xm
  rcases xm with rfl | rfl | rfl | rfl | rfl
  ·exact dL' (by omega) (rn 3)
  ·refine ⟨by simp,λx hx=>?_⟩
   simp only [List.mem_cons,List.not_mem_nil,or_false] at hx
   rcases hx with rfl | rfl | rfl
   ·exact rn 3
   ·exact rr 1
   ·exact rr 1
  ·refine ⟨by simp,λx hx=>?_⟩
   simp only [List.mem_cons,List.not_mem_nil,or_false] at hx
   rcases hx with rfl | rfl
   ·exact rn 3
   ·exact rr 1
  ·exact rr 2
  ·exact rn 4
 rw [if_neg (by simp [w6])]
 refine dG'.mpr (hK _ ?_)
 refine af' ?_;rintro K hK -
 refine qv' ?_
 simp [isMut,R.mut]
 refine aF' hc (by omega) (by omega) λh c h1 h2 hc=>?_
 simp
 obtain ⟨kvs,e1,pm,vals⟩:=ma' W (c:=none) h1 h2 (λx z=>by cases z) (by show (18:Nat) < 20;decide) (λv l=>∀ x∈l,0<=x/\x < (n:Int)) (λx hx=>by rw [List.mem_singleton.mp hx];omega) (λv p u hp hu _ _ x hx=>by
  rcases List.mem_append.mp hx with hx | hx
  ·exact hp x hx
  ·rw [List.mem_singleton.mp hx]
   have:=W.in_n ((W.nb v u).mp hu)
   omega)
 refine ⟨kvs,e1,hK _ ?_⟩
 have lk:kvs.length<=8:=by
  have:=pm.length_eq
  have l:=W.wl_len 20 none h h1 h2
  unfold keysI at this
  simp at this
  omega
 have ek:keysD kvs=(keysI kvs).map D.int:=by unfold keysD keysI;rw [List.map_map];rfl
 obtain ⟨ks,eks⟩:∃ ks,ks=sortI (keysI kvs):=⟨_,rfl⟩
 have ksm:∀ v∈ks,∃ l:List Int,valD kvs v=some (.lst (l.map D.int))/\∀ x∈l,0<=x/\x < (n:Int):=λv hv=>by
  rw [eks,(cx' _).mem_iff] at hv
  obtain ⟨d,hd⟩:=fA' hv
  obtain ⟨l,rfl,_,hl⟩:=vals v d hd
  exact ⟨l,hd,hl⟩
 have lks:ks.length<=8:=by rw [eks,(cx' _).length_eq];unfold keysI;simpa using lk
 have sk:sortKF kvs=some (ks.map D.int):=by
  unfold sortKF
  rw [if_pos (by omega),ek,iG',eks]
 refine af' ?_;rintro K hK -
 simp [sortN]
 refine dm' ks D.int (λv=>match valD kvs v with | some (.lst l)=>decide (2 < l.length) | _=>false) (λv=>(valD kvs v).getD .non) ?_
 simp [sortN,sk]
 refine ⟨by omega,λv hv=>?_,hK _ ?_⟩
 ·obtain ⟨l,hl,_⟩:=ksm v hv
  have g:getKF (.int v) kvs=some (.lst (l.map D.int)):=hl
  simp [g,hl]
  omega
 clear hK
 obtain ⟨es,ees⟩:∃ es,es=(ks.filter λv=>match valD kvs v with | some (.lst l)=>decide (2 < l.length) | _=>false).map λv=>(valD kvs v).getD .non:=⟨_,rfl⟩
 have esm:∀ e∈es,∃ l:List Int,e=.lst (l.map D.int)/\0 < l.length/\∀ x∈l,0<=x/\x < (n:Int):=λe he=>by
  rw [ees] at he
  obtain ⟨v,hv,rfl⟩:=List.mem_map.mp he
  rw [List.mem_filter] at hv
  obtain ⟨l,hl,hx⟩:=ksm v hv.1
  have q:=hv.2
  rw [hl] at q
  simp only [List.length_map,decide_eq_true_eq] at q
  exact ⟨l,by rw [hl];rfl,by omega,hx⟩
 have les:es.length<=8:=by
  rw [ees,List.length_map]
  exact Nat.le_trans (List.length_filter_le _ _) lks
 rw [← ees]
 clear ees
 refine af' ?_;rintro K hK hR
 have ed:∀ ds:List D,deq (.lst ds) (.lst [])=ds.isEmpty:=λds=>by
  rw [deq]
  cases ds<;>simp [deqA]
 simp [dep,ed]
 refine ⟨.inr (by simp [depA]),?_⟩
 split
 ·exact hR _ _ (hE _ _ _ ⟨_,rfl⟩ (k _ c (gt' W) hc))
 ·rename_i ne
  have pos:0 < es.length:=by
   cases es with
   | nil=>simp at ne
   | cons=>simp
  refine hK _ ?_
  refine af' ?_;rintro K hK -
  simp [isMut,R.mut]
  refine aF' hc (by omega) (by omega) λz c z1 z2 hc=>?_
  obtain ⟨x,e,xm⟩:=ce' (ds:=es) (i:=z) z1 (by omega)
  obtain ⟨l,rfl,lp,lx⟩:=esm x xm
  simp [e]
  refine hK _ ?_
  obtain ⟨a,am,ea⟩:=qu' lp
  obtain ⟨b,bm,eb⟩:=qt' lp
  refine af' ?_;rintro K hK -
  simp [ea,eb]
  refine hK _ ?_
  have e3:rs.map pairD++[D.tup [D.int (min a b),D.int (max a b)]]=(rs++[(min a b,max a b)]).map pairD:=by simp [pairD]
  obtain ⟨ps,eps⟩:∃ ps,ps=rs++[(min a b,max a b)]:=⟨_,rfl⟩
  have lps:ps.length<=10:=by rw [eps];simp;omega
  have sps:∀ r∈ps,Sm r:=λr hr=>by
   rw [eps] at hr
   rcases List.mem_append.mp hr with h | h
   ·exact sm r h
   ·rw [List.mem_singleton.mp h]
    have:=lx a am
    have:=lx b bm
    unfold Sm;simp only;omega
  obtain ⟨e4,pm⟩:=f4' (ps:=ps) (by omega)
  simp
  rw [e3,← eps]
  simp [e4]
  exact ⟨by omega,hE _ _ _ ⟨_,rfl⟩ (k _ c (.inl (aT' (by omega) (rn 3) (cj' (k:=1) (by omega) (by rw [pm.length_eq];exact lps) λr hr=>sps r (pm.mem_iff.mp hr)))) hc)⟩
theorem mi' {c:List D}{n:Nat}{rs:List (Int×Int)}{rk:Int->Nat}{Q:R->List D->Prop} (W:Web n rs rk) (hc:PotOk c) (k:∀ d c',Fine d->PotOk c'->Q (.val d) c'):wpB cq' c [webD n rs] Q:=by
 have n1:=W.n1
 have n8:=W.n8
 have few:=W.few
 have sm:=W.sm
 have rn:∀ k,Rp 10 (k+1) (.int n):=λk=>ay' (by omega)
 have rr:∀ k,Rp 10 (k+3) (.tup (rs.map pairD)):=λk=>cj' (by omega) (by omega) sm
 refine cS' rfl λKE hE _=>?_
 rw [dp']
 refine af' ?_;rintro K hK -
 simp [isMut,R.mut]
 refine aF' hc (by omega) (by omega) λway c w1 w2 hc=>?_
 simp
 refine hK _ ?_
 refine af' ?_;rintro K hK -
 rw [show webD n rs=.tup [.int n,.tup (rs.map pairD)] from rfl]
 simp
 refine hK _ ?_
 rw [show D.tup [.int n,.tup (rs.map pairD)]=webD n rs from rfl]
 refine af' ?_;rintro K hK -
 obtain ⟨L,eL⟩:∃ L:List D,L=[.bl true,.bl false,.non,.str "", .str "1", .lst [],.lst [.int 1],.tup [],.tup [.int 1],.int (10 ^ 30),.int (-1),.int n]:=⟨_,rfl⟩
 have ll:L.length=12:=by rw [eL];rfl
 have ok:∀ x∈L,Rp 10 2 x:=by
  intro x hx
  rw [eL] at hx
  simp only [List.mem_cons,List.not_mem_nil,or_false] at hx
  rcases hx with rfl | rfl | rfl | rfl | rfl | rfl | rfl | rfl | rfl | rfl | rfl | rfl
  ·trivial
  ·trivial
  ·trivial
  ·show (PySem.PyData.shown (.str "")).length<=40
   decide +kernel
  ·show (PySem.PyData.shown (.str "1")).length<=40
   decide +kernel
  ·exact ⟨by simp,by simp⟩
  ·refine ⟨by simp,λx hx=>?_⟩
   rw [List.mem_singleton.mp hx];exact ay' (by decide)
  ·exact ⟨by simp,by simp⟩
  ·exact dL' (by omega) (ay' (by decide))
  ·exact ay' (by decide)
  ·exact ay' (by decide)
  ·exact rn 1
 obtain ⟨x,e,xm⟩:=ce' (ds:=L) (i:=way) w1 (by omega)
 have rx:=ok x xm
 refine hT'.mpr (nJ'.mpr ⟨.lst L,[some (.bor c),some (.val (webD n rs)),some (.val (.int way)),some (.val (.int n)),some (.val (.tup (rs.map pairD))),none,none,none,none,none],by rw [eL];rfl,?_⟩)
 clear eL ok
 simp [e]
 refine hK _ ?_
 refine af' ?_;rintro K hK -
 simp [isMut,R.mut]
 refine aF' hc (by omega) (by omega) λat_ c t1 t2 hc=>?_
 simp
 refine hK _ ?_
 refine af' ?_;rintro K hK hR
 simp [aE',bJ']
 split
 ·exact hR _ _ (hE _ _ _ ⟨_,rfl⟩ (k _ c (.inl (aT' (by omega) (rx.mono (by omega) (by omega)) (rr 1))) hc))
 ·rename_i ne
  refine hK _ ?_
  obtain ⟨y,ey,ym⟩:=ce' (ds:=rs.map pairD) (i:=at_) t1 (by simp;omega)
  obtain ⟨⟨a,b⟩,rm,rfl⟩:=List.mem_map.mp ym
  have sab:=sm _ rm
  refine af' ?_;rintro K hK -
  simp [ey,pairD]
  refine hK _ ?_
  refine af' ?_;rintro K hK -
  simp [isMut,R.mut]
  refine aF' hc (by omega) (by omega) λz c z1 z2 hc=>?_
  obtain ⟨r,er,rmm⟩:=ce' (ds:=[D.tup [.int a,x],.tup [x,.int b]]) (i:=z) z1 (by simpa using z2)
  have rpr:Rp 10 3 r:=by
   simp only [List.mem_cons,List.not_mem_nil,or_false] at rmm
   rcases rmm with rfl | rfl
   ·exact aT' (by omega) (sab.ints (k:=1)).1 rx
   ·exact aT' (by omega) rx (sab.ints (k:=1)).2
  simp [er]
  refine hK _ ?_
  simp
  refine da' rfl ?_
  simp
  obtain ⟨q1,e1,s1,g1⟩:=a9' (rs:=rs) (lo:=none) (hi:=some at_)
  have le:q1.length+(cutD (rs.map pairD) (some (at_+1)) none).length<=rs.length:=by
   obtain ⟨m,rfl⟩:∃ m:Nat,at_=m:=⟨at_.toNat,by omega⟩
   have e5:=congrArg List.length e1
   rw [ed'] at e5
   have:((m:Int)+1)=((m+1:Nat):Int):=by omega
   rw [this,eX']
   simp at e5 ⊢
   omega
  obtain ⟨q2,e2,s2,g2⟩:=a9' (rs:=rs) (lo:=some (at_+1)) (hi:=none)
  have ep:(λp:Int×Int=>D.tup [D.int p.1,D.int p.2])=pairD:=rfl
  rw [e2] at le
  simp at le
  rw [show List.map pairD rs=rs.map pairD from rfl] at e1 e2
  rw [e1]
  refine ⟨by simp;omega,?_⟩
  refine da' rfl ?_
  simp
  rw [e2]
  refine ⟨by simp;omega,hE _ _ _ ⟨_,rfl⟩ (k _ c (.inl (aT' (by omega) (rn 3) ⟨by simp;omega,λx hx=>?_⟩)) hc)⟩
  rcases List.mem_append.mp hx with h | h
  ·obtain ⟨r,hr,rfl⟩:=List.mem_map.mp h
   exact fS' (k:=1) (by omega) (sm r (s1 r hr))
  ·rcases List.mem_cons.mp h with rfl | h
   ·exact rpr
   ·obtain ⟨r,hr,rfl⟩:=List.mem_map.mp h
    exact fS' (k:=1) (by omega) (sm r (s2 r hr))
theorem qx' (v:Bool):cvF (bf' 8) [.bl v,.bl v]=some (.bl true):=h0' (k:=8) (d:=.bl v) trivial
def thing0:List D:=[.non,.tup [],.tup [.int 1],.tup [.int 1,.tup []],.tup [.int 8,.tup []],.tup [.int 0,.tup []],.tup [.int 9,.tup []],.str "web", .int 0,.lst [],.tup [.int 1,.tup [.tup [.int 0,.int 0]]],.tup [.bl true,.tup []]]
theorem n0':∀ d∈thing0,Fine d:=by
 have ri:∀ (i:Int) k,i.natAbs < 10 ^ 31->Rp 10 (k+1) (.int i):=λi k h=>ay' h
 have e:∀ k,Rp 10 (k+1) (.tup []):=λk=>⟨by simp,by simp⟩
 intro d hd
 unfold thing0 at hd
 simp only [List.mem_cons,List.not_mem_nil,or_false] at hd
 rcases hd with rfl | rfl | rfl | rfl | rfl | rfl | rfl | rfl | rfl | rfl | rfl | rfl
 ·exact .inl trivial
 ·exact .inl (e 4)
 ·exact .inl (dL' (by omega) (ri 1 3 (by decide)))
 ·exact .inl (aT' (by omega) (ri 1 3 (by decide)) (e 3))
 ·exact .inl (aT' (by omega) (ri 8 3 (by decide)) (e 3))
 ·exact .inl (aT' (by omega) (ri 0 3 (by decide)) (e 3))
 ·exact .inl (aT' (by omega) (ri 9 3 (by decide)) (e 3))
 ·exact .inl (show (PySem.PyData.shown (.str "web")).length<=40 by decide +kernel)
 ·exact .inl (ri 0 4 (by decide))
 ·exact .inl ⟨by simp,by simp⟩
 ·exact .inl (aT' (by omega) (ri 1 3 (by decide)) (dL' (by omega) (aT' (by omega) (ri 0 1 (by decide)) (ri 0 1 (by decide)))))
 ·exact .inl (aT' (by omega) (show Rp 10 4 (.bl true) from trivial) (e 3))
open Classical in
theorem looks {d:D} (h:Fine d):∃ v,cvF cg' [d]=some (.bl v)/\cvF ci' [d]=some (.bl v) :=
 ⟨decide (IsWeb d),iK' h.len (by simp),kg' h.len (by simp)⟩
theorem law_true (ns:List Int) (hns:ns.length<=63):∃ rs,e6' [.val (.lst (ns.map D.int))]=some (.val (.bl true),rs):=by
 have key:wpF e6' [.val (.lst (ns.map D.int))] λr _=>r=.val (.bl true):=by
  refine cR' rfl λKE hE _=>?_
  rw [l3']
  refine af' ?_;rintro K hK -
  obtain ⟨c,hc,hp⟩:=rN' ns
  simp [hc]
  refine hK _ ?_
  refine af' ?_;rintro K hK -
  refine ⟨_,_,rfl,hK _ ?_⟩
  show wp _ [some (.val (.lst (ns.map .int))),some (.own c),some (.val (.lst thing0)),none,none,none,none] _
  have t0:=n0'
  have l0:thing0.length=12:=rfl
  generalize thing0=T at t0 l0
  refine af' ?_;rintro K hK -
  simp
  refine bF' (J:=λi Γ=>∃ c T x3 x4 x5 x6,PotOk c/\(∀ d∈T,Fine d)/\T.length<=12+9*i/\Γ=[some (.val (.lst (ns.map .int))),some (.own c),some (.val (.lst T)),x3,x4,x5,x6]) ⟨c,T,none,none,none,none,hp,t0,by omega,rfl⟩ ?_ ?_
  ·rintro i d Γ hd ⟨c,T,x3,x4,x5,x6,hc,hT,lT,rfl⟩ KL hnx - - -
   obtain ⟨-,hi⟩:=dt' hd
   simp
   refine af' ?_;rintro K2 hK2 -
   simp [isMut,R.mut]
   refine nQ' hc λn rs rk c W ⟨ps,eps⟩ hc=>?_
   simp
   refine hK2 _ ?_;clear hK2
   have ri:Rise rs:=by rw [eps];exact nT' ps
   have e1:cvF cg' [webD n rs]=some (.bl true):=iK' (gt' W).len (by simp;exact ⟨n,rs,rfl,ri,rk,W⟩)
   refine af' ?_;rintro K2 hK2 -
   simp [e1,isBF]
   refine hK2 _ ?_;clear hK2
   simp
   refine ⟨by omega,?_⟩
   obtain ⟨J,hJ⟩:∃ J:Nat->List D->Gm->Prop,∀ j acc Γ,J j acc Γ↔∃ c,PotOk c/\(∀ d∈acc,Fine d)/\acc.length=j/\Γ=[some (.val (.lst (ns.map .int))),some (.own c),some (.val (.lst T)),some (.val d),some (.val (webD n rs)),x5,x6]:=⟨_,λ_ _ _=>Iff.rfl⟩
   refine kd' J ?_
   simp
   refine ⟨(hJ _ _ _).mpr ⟨c,hc,by simp,rfl,rfl⟩,?_,?_⟩
   ·intro j d' acc Γ2 hd2 hj
    obtain ⟨c,hc,ha,la,rfl⟩:=(hJ _ _ _).mp hj
    simp [isMut,R.mut]
    refine qw' W hc λd2 c hd2 hc=>?_
    simp
    refine ⟨_,_,⟨rfl,rfl⟩,(hJ (j+1) _ _).mpr ⟨c,hc,λx hx=>?_,by rw [List.length_append,la];rfl,rfl⟩⟩
    rcases List.mem_append.mp hx with h | h
    ·exact ha x h
    ·rw [List.mem_singleton.mp h];exact hd2
   ·intro acc Γ2 hj
    obtain ⟨c,hc,ha,la,rfl⟩:=(hJ _ _ _).mp hj
    simp
    refine ⟨by omega,hnx _ ⟨c,T++webD n rs::acc,_,_,_,_,hc,λx hx=>?_,by simp;omega,rfl⟩⟩
    rcases List.mem_append.mp hx with h | h
    ·exact hT x h
    ·rcases List.mem_cons.mp h with rfl | h
     ·exact gt' W
     ·exact ha x h
  ·rintro Γ ⟨c,T,x3,x4,x5,x6,hc,hT,lT,rfl⟩
   rw [du'] at lT
   refine hK _ ?_
   refine af' ?_;rintro K hK -
   simp
   refine bF' (J:=λi Γ=>∃ c T x3 x4 x5 x6,PotOk c/\(∀ d∈T,Fine d)/\T.length<=57+7*i/\Γ=[some (.val (.lst (ns.map .int))),some (.own c),some (.val (.lst T)),x3,x4,x5,x6]) ⟨c,T,_,_,_,_,hc,hT,by simp at lT;omega,rfl⟩ ?_ ?_
   ·rintro i d Γ hd ⟨c,T,x3,x4,x5,x6,hc,hT,lT,rfl⟩ KL hnx - - -
    obtain ⟨-,hi⟩:=dt' hd
    simp
    refine af' ?_;rintro K2 hK2 -
    simp [isMut,R.mut]
    refine nQ' hc λn rs rk c W ⟨ps,eps⟩ hc=>?_
    simp
    refine hK2 _ ?_;clear hK2
    simp [isMut,R.mut]
    refine kK' hc λd3 c hd3 hc=>?_
    simp
    refine ⟨by omega,?_⟩
    obtain ⟨J,hJ⟩:∃ J:Nat->List D->Gm->Prop,∀ j acc Γ,J j acc Γ↔∃ c,PotOk c/\(∀ d∈acc,Fine d)/\acc.length=j/\Γ=[some (.val (.lst (ns.map .int))),some (.own c),some (.val (.lst T)),some (.val d),some (.val (webD n rs)),x5,x6]:=⟨_,λ_ _ _=>Iff.rfl⟩
    refine kd' J ?_
    simp
    refine ⟨(hJ _ _ _).mpr ⟨c,hc,by simp,rfl,rfl⟩,?_,?_⟩
    ·intro j d' acc Γ2 hd2 hj
     obtain ⟨c,hc,ha,la,rfl⟩:=(hJ _ _ _).mp hj
     simp [isMut,R.mut]
     refine mi' W hc λd2 c hd2 hc=>?_
     simp
     refine ⟨_,_,⟨rfl,rfl⟩,(hJ (j+1) _ _).mpr ⟨c,hc,λx hx=>?_,by rw [List.length_append,la];rfl,rfl⟩⟩
     rcases List.mem_append.mp hx with h | h
     ·exact ha x h
     ·rw [List.mem_singleton.mp h];exact hd2
    ·intro acc Γ2 hj
     obtain ⟨c,hc,ha,la,rfl⟩:=(hJ _ _ _).mp hj
     simp
     refine ⟨by omega,hnx _ ⟨c,T++d3::acc,_,_,_,_,hc,λx hx=>?_,by simp;omega,rfl⟩⟩
     rcases List.mem_append.mp hx with h | h
     ·exact hT x h
     ·rcases List.mem_cons.mp h with rfl | h
      ·exact hd3
      ·exact ha x h
   ·rintro Γ ⟨c,T,x3,x4,x5,x6,hc,hT,lT,rfl⟩
    rw [du'] at lT
    refine hK _ ?_
    refine af' ?_;rintro K hK -
    simp
    refine bF' (J:=λi Γ=>∃ x5 x6,Γ=[some (.val (.lst (ns.map .int))),some (.own c),some (.val (.lst T)),x3,x4,x5,x6]) ⟨_,_,rfl⟩ ?_ ?_
    ·rintro i d Γ hd ⟨x5,x6,rfl⟩ KL hnx - - -
     have fd:=hT d (List.mem_of_getElem? hd)
     have e1:=fd.shown
     obtain ⟨v,e2,e3⟩:=looks fd
     have e4:=qx' v
     simp
     refine af' ?_;rintro K2 hK2 -
     simp [e1]
     refine hK2 _ ?_;clear hK2
     simp [e1,e2,e3,e4]
     exact hnx _ ⟨_,_,rfl⟩
    ·rintro Γ ⟨x5,x6,rfl⟩
     refine hK _ ?_
     exact ⟨_,_,rfl,hE _ _ ⟨_,rfl,rfl⟩⟩
 obtain ⟨r,rs',e,rfl⟩:=key
 exact ⟨rs',e⟩
end Own
def PySem.W.Fast.tw10411864745790809855:Unit:=()
def PySem.W.Fast.tw17385925925936507581:Unit:=()
def PySem.W.Fast.tw4906910322726119538:Unit:=()
def PySem.W.Fast.tw689529581161125405:Unit:=()
def PySem.W.Fast.tw1659013129210572743:Unit:=()
def PySem.W.Fast.tw16069490919986961405:Unit:=()
def PySem.W.Fast.tw3152713823613586830:Unit:=()
def PySem.W.Fast.tw160817633549310360:Unit:=()
def PySem.W.Fast.tw16161006026810225500:Unit:=()
def PySem.W.Fast.tw3611310122599295992:Unit:=()
def PySem.W.Fast.tw3347759256499031277:Unit:=()
def PySem.W.Fast.tw8130757465936835492:Unit:=()
def PySem.W.Fast.tw12142577739190579404:Unit:=()
def PySem.W.Fast.tw16496054130843045505:Unit:=()
def PySem.W.Fast.tw6005391750897143671:Unit:=()
def PySem.W.Fast.tw8647268025017877331:Unit:=()
def PySem.W.Fast.tw8697508843773593441:Unit:=()
def PySem.W.Fast.tw3727289514870077946:Unit:=()
def PySem.W.Fast.tw12727581625868786652:Unit:=()
def PySem.W.Fast.tw2672769418044011214:Unit:=()
def PySem.W.Fast.tw7180094602316847027:Unit:=()
def PySem.W.Fast.tw7702760177316548392:Unit:=()
def PySem.W.Fast.tw18228131315448548987:Unit:=()
def PySem.W.Fast.tw15973590258039559633:Unit:=()
def PySem.W.Fast.tw978096029641246760:Unit:=()
def PySem.W.Fast.tw4241827939546687957:Unit:=()
def PySem.W.Fast.tw15182228447056445764:Unit:=()
def PySem.W.Fast.tw14067656027440027757:Unit:=()
def PySem.W.Fast.tw13769876319942172206:Unit:=()
def PySem.W.Fast.tw17187321052013808744:Unit:=()
def PySem.W.Fast.tw2265086030288093335:Unit:=()
def PySem.W.Fast.tw14349318478955746448:Unit:=()
def PySem.W.Fast.tw14618212897135340422:Unit:=()
def PySem.W.Fast.tw4123486782120346339:Unit:=()
def PySem.W.Fast.tw11282936863291733382:Unit:=()
def PySem.W.Fast.tw9902518978856288052:Unit:=()
def PySem.W.Fast.tw383042504305065826:Unit:=()
def PySem.W.Fast.tw9287096842351290267:Unit:=()
def PySem.W.Fast.tw11606818529777871647:Unit:=()
def PySem.W.Fast.tw6631429294503518755:Unit:=()
def PySem.W.Fast.tw8674311174549345710:Unit:=()
def PySem.W.Fast.tw2232007066633907792:Unit:=()
def PySem.W.Fast.tw16276103459019931529:Unit:=()
def PySem.W.Fast.tw6135118652359725848:Unit:=()
def PySem.W.Fast.tw3167639484300101370:Unit:=()
def PySem.W.Fast.tw8296210682528035555:Unit:=()
open PySem PySem.W PyProof.Rows
set_option maxRecDepth 100000 in
set_option maxHeartbeats 0 in
theorem PySem.Challenge.cw_roofpost_k23_what_is_a_web_holds : PySem.Challenge.rw_roofpost_k23_what_is_a_web.Holds := by
 w_on;(refine holds_law (by decide +kernel) λsaid=>?_);k_head;(case hw=>w_witness2)
 k_fill
 refine Own.walk (l:=PySem.Challenge.rw_roofpost_k23_what_is_a_web) Own.law_true rfl rfl (λw h Y=>PySem.W.kIn_of Y) ?F
 case F =>
  intro w mg fa h KX G hmg
  refine' Own.all_mk KX G hmg ?a0 ?l0 ?c0 ?k0 ?a1 ?l1 ?c1 ?k1 ?a2 ?l2 ?c2 ?k2 ?a3 ?l3 ?c3 ?k3 ?a4 ?l4 ?c4 ?k4 ?a5 ?l5 ?c5 ?k5 ?a6 ?l6 ?c6 ?k6 ?a7 ?l7 ?c7 ?k7 ?a8 ?l8 ?c8 ?k8 ?a9 ?l9 ?c9 ?k9 ?a10 ?l10 ?c10 ?k10 ?a11 ?l11 ?c11 ?k11 ?a12 ?l12 ?c12 ?k12 ?a13 ?l13 ?c13 ?k13 ?a14 ?l14 ?c14 ?k14 ?a15 ?l15 ?c15 ?k15 ?a16 ?l16 ?c16 ?k16 ?a17 ?l17 ?c17 ?k17 ?a18 ?l18 ?c18 ?k18 ?a19 ?l19 ?c19 ?k19 ?a20 ?l20 ?c20 ?k20 ?a21 ?l21 ?c21 ?k21 ?a22 ?l22 ?c22 ?k22 ?a23 ?l23 ?c23 ?k23 ?a24 ?l24 ?c24 ?k24 ?y_all ?y_bool ?y_enumerate ?y_int ?y_isinstance ?y_len ?y_list ?y_max ?y_min ?y_range ?y_repr ?y_set ?y_sorted ?y_str ?y_tuple ?y_zip ?x_MOST_HOUSES
  (case a0=>k_is)
  (case l0=>k_is)
  (case c0=>k_is)
  (case k0=>k_is)
  (case a1=>k_is)
  (case l1=>k_is)
  (case c1=>k_is)
  (case k1=>k_is)
  (case a2=>k_is)
  (case l2=>k_is)
  (case c2=>k_is)
  (case k2=>k_is)
  (case a3=>k_is)
  (case l3=>k_is)
  (case c3=>k_is)
  (case k3=>k_is)
  (case a4=>k_is)
  (case l4=>k_is)
  (case c4=>k_is)
  (case k4=>k_is)
  (case a5=>k_is)
  (case l5=>k_is)
  (case c5=>k_is)
  (case k5=>k_is)
  (case a6=>k_is)
  (case l6=>k_is)
  (case c6=>k_is)
  (case k6=>k_is)
  (case a7=>k_is)
  (case l7=>k_is)
  (case c7=>k_is)
  (case k7=>k_is)
  (case a8=>k_is)
  (case l8=>k_is)
  (case c8=>k_is)
  (case k8=>k_is)
  (case a9=>k_is)
  (case l9=>k_is)
  (case c9=>k_is)
  (case k9=>k_is)
  (case a10=>k_is)
  (case l10=>k_is)
  (case c10=>k_is)
  (case k10=>k_is)
  (case a11=>k_is)
  (case l11=>k_is)
  (case c11=>k_is)
  (case k11=>k_is)
  (case a12=>k_is)
  (case l12=>k_is)
  (case c12=>k_is)
  (case k12=>k_is)
  (case a13=>k_is)
  (case l13=>k_is)
  (case c13=>k_is)
  (case k13=>k_is)
  (case a14=>k_is)
  (case l14=>k_is)
  (case c14=>k_is)
  (case k14=>k_is)
  (case a15=>k_is)
  (case l15=>k_is)
  (case c15=>k_is)
  (case k15=>k_is)
  (case a16=>k_is)
  (case l16=>k_is)
  (case c16=>k_is)
  (case k16=>k_is)
  (case a17=>k_is)
  (case l17=>k_is)
  (case c17=>k_is)
  (case k17=>k_is)
  (case a18=>k_is)
  (case l18=>k_is)
  (case c18=>k_is)
  (case k18=>k_is)
  (case a19=>k_is)
  (case l19=>k_is)
  (case c19=>k_is)
  (case k19=>k_is)
  (case a20=>k_is)
  (case l20=>k_is)
  (case c20=>k_is)
  (case k20=>k_is)
  (case a21=>k_is)
  (case l21=>k_is)
  (case c21=>k_is)
  (case k21=>k_is)
  (case a22=>k_is)
  (case l22=>k_is)
  (case c22=>k_is)
  (case k22=>k_is)
  (case a23=>k_is)
  (case l23=>k_is)
  (case c23=>k_is)
  (case k23=>k_is)
  (case a24=>k_is)
  (case l24=>k_is)
  (case c24=>k_is)
  (case k24=>k_is)
  (case y_all=>k_is)
  (case y_bool=>k_is)
  (case y_enumerate=>k_is)
  (case y_int=>k_is)
  (case y_isinstance=>k_is)
  (case y_len=>k_is)
  (case y_list=>k_is)
  (case y_max=>k_is)
  (case y_min=>k_is)
  (case y_range=>k_is)
  (case y_repr=>k_is)
  (case y_set=>k_is)
  (case y_sorted=>k_is)
  (case y_str=>k_is)
  (case y_tuple=>k_is)
  (case y_zip=>k_is)
  (case x_MOST_HOUSES=>k_is)
